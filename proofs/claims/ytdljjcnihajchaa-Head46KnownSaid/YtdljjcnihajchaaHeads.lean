/-
  Proved here: what ip6.heads answers.
  Conditions: a packet that may be.
-/
import Derived.Test.YtdljjcnihajchaaInRound
namespace Go.Proofs.Ytdljjcnihajchaa
open Go.RowKit Go.Shelf

attribute [local go_sem] Oper.semAt_some

/-- One extension more in front: the next that is told, and the bytes. -/
def hstep (st : Int × ByteArray) (e : Int × ByteArray) : Int × ByteArray := (e.1, strOfNums [st.1] ++ strOfNums [((e.2.size : Int) - 6) / 8] ++ e.2 ++ st.2)
/-- The fragment's head, or nothing. -/
def Pk6.fragB (p : Pk6) : ByteArray := strOfNums [p.proto] ++ strOfNums [0] ++ strOfNums [p.place / 256, p.place % 256] ++ strOfNums [p.id / 16777216, p.id / 65536 % 256, p.id / 256 % 256, p.id % 256]
def Pk6.st0 (p : Pk6) : Int × ByteArray := if p.frag then (44, p.fragB) else (p.proto, ⟨#[]⟩)
/-- What stands between the head and the data, and the first next. -/
def Pk6.heads (p : Pk6) : Int × ByteArray := p.exts.foldr (fun e st => hstep st e) p.st0
def hst (pre : List (Nat × GE)) (s0 : Int × ByteArray) : Int × ByteArray := pre.foldl (fun st x => hstep st x.2.1) s0
theorem hst_snoc (pre : List (Nat × GE)) (x : Nat × GE) (s0 : Int × ByteArray) : hst (pre ++ [x]) s0 = hstep (hst pre s0) x.2.1 := by simp [hst]
theorem hstep_size (st e : Int × ByteArray) : (hstep st e).2.size = 2 + e.2.size + st.2.size := by
  unfold hstep
  simp only [ByteArray.size_append, strOfNums_size, List.length_cons, List.length_nil]
theorem isEx_range {n : Int} (h : isEx n) : 0 ≤ n ∧ n < 256 := by rcases h with rfl | rfl | rfl <;> decide
theorem hst_facts (pre : List (Nat × GE)) : ∀ s0 : Int × ByteArray, 0 ≤ s0.1 ∧ s0.1 < 256 → (0 ≤ (hst pre s0).1 ∧ (hst pre s0).1 < 256) ∧ (hst pre s0).2.size ≤ s0.2.size + 2048 * pre.length := by
  induction pre with
  | nil => intro s0 h0; exact ⟨h0, Nat.le_refl _⟩
  | cons x r ih =>
    intro s0 h0
    have h := ih (hstep s0 x.2.1) (isEx_range x.2.2.1)
    have e : hst (x :: r) s0 = hst r (hstep s0 x.2.1) := rfl
    rw [e]
    refine ⟨h.1, ?_⟩
    have h2 := h.2
    rw [hstep_size] at h2
    have h3 := x.2.2.2.1
    rw [List.length_cons]
    omega
theorem dn_list (zs : List GE) : (uptoE (dn zs) zs.length).map (·.2) = zs.reverse := by
  apply List.ext_getElem
  · simp [uptoE]
  · intro i h1 h2
    simp only [uptoE, List.length_map, List.length_range] at h1
    simp only [uptoE, List.getElem_map, List.getElem_range, List.getElem_reverse]
    unfold dn
    rw [List.getD_eq_getElem?_getD, List.getElem?_eq_getElem (by omega)]
    rfl
theorem hst_all (zs : List GE) (s0 : Int × ByteArray) : hst (uptoE (dn zs) zs.length) s0 = (zs.map Subtype.val).foldr (fun e st => hstep st e) s0 := by
  have e : ∀ (pre : List (Nat × GE)) (s : Int × ByteArray), hst pre s = ((pre.map (·.2)).map Subtype.val).foldl hstep s := by
    intro pre
    induction pre with
    | nil => intro s; rfl
    | cons x r ih => intro s; exact ih _
  rw [e, dn_list, List.map_reverse, List.foldl_reverse]
theorem ge_of (l : List (Int × ByteArray)) (h : ∀ e ∈ l, isEx e.1 ∧ e.2.size ≤ 2046 ∧ e.2.size % 8 = 6) : ∃ zs : List GE, zs.map Subtype.val = l := by
  induction l with
  | nil => exact ⟨[], rfl⟩
  | cons e r ih =>
    obtain ⟨zs, hz⟩ := ih (fun x hx => h x (List.mem_cons_of_mem _ hx))
    exact ⟨⟨e, h e (by simp)⟩ :: zs, by rw [List.map_cons, hz]⟩
theorem cat_len (a b : ByteArray) : (a ++ b).size = a.size + b.size := ByteArray.size_append
theorem ge_all {p : Pk6} (hk : p.kinds = true) (hf : formed p.exts = true) : ∀ e ∈ p.exts, isEx e.1 ∧ e.2.size ≤ 2046 ∧ e.2.size % 8 = 6 := by
  intro e he
  unfold Pk6.kinds at hk
  simp only [Bool.and_eq_true, List.all_eq_true] at hk
  obtain ⟨i, hi, rfl⟩ := List.mem_iff_getElem.1 he
  have h1 := fms_at hf i hi
  unfold fm1 at h1
  simp only [Bool.and_eq_true, decide_eq_true_eq, beq_iff_eq] at h1
  exact ⟨of_decide_eq_true (hk.1 _ he), h1.1, h1.2.1⟩
/-- What a round's region keeps. -/
theorem rs {W w' : World} {n Bx Bs : Nat} {T S : TypeId} {nx kd : Int} {bd : ByteArray} (bN : Boxed W (n + 1) T (.int .i64 nx)) (bX : Bk W Bx S #[.int .i64 kd, .string bd]) (h3 : n + 3 ≤ Bs) (hB : Bs < Bx) (g : W.grownBy w' (some (n + 1 + 1))) :
    W.grownBy w' (some (n + 1 + 1)) ∧ w'.cell? ⟨n + 1, 0, none⟩ = some (.int .i64 nx) ∧ w'.cell? ⟨Bx, 1, none⟩ = some (.string bd) :=
  ⟨g, (bN.kept g (fun e => by injection e with e; omega)).cell, (bX.grown g (fun e => by injection e with e; omega)).c 1 _ rfl⟩
theorem rs3 {W w' : World} {n : Nat} {T S : TypeId} {nx id : Int} {V : List Value} (bN : Boxed W (n + 1) T (.int .i64 nx)) (bB : Bk W n S V.toArray) (h37 : V[37]? = some (.int .u32 id)) (g : W.grownBy w' (some (n + 1 + 1))) :
    W.grownBy w' (some (n + 1 + 1)) ∧ w'.cell? ⟨n + 1, 0, none⟩ = some (.int .i64 nx) ∧ w'.rangeAt n 0 V ∧ w'.cell? ⟨n, 37, none⟩ = some (.int .u32 id) :=
  have b := bB.grown g (fun e => by injection e with e; omega)
  ⟨g, (bN.kept g (fun e => by injection e with e; omega)).cell, b.range, b.at h37⟩
theorem fragB_size (p : Pk6) : p.fragB.size = 8 := by
  unfold Pk6.fragB
  simp only [ByteArray.size_append, strOfNums_size, List.length_cons, List.length_nil]
theorem Boxed.below' {W W' : World} {B C : Nat} {t : TypeId} {v : Value} (h : Boxed W B t v) (hb : Below C W W') (hC : B < C) : Boxed W' B t v := (hb.block B hC).trans h
set_option maxRecDepth 100000 in
set_option maxHeartbeats 2000000 in
theorem heads_plain (p : Pk6) (v : Value) (w : World) (hx : Exs w v p.exts) (hl : p.exts.length ≤ 20) (hp : 0 ≤ p.proto ∧ p.proto < 256) (hge : ∀ e ∈ p.exts, isEx e.1 ∧ e.2.size ≤ 2046 ∧ e.2.size % 8 = 6) (hf : p.frag = false) :
    Calls Try.prog 23 #[.agg (p.vals v).toArray] w fun e w' => e = .returned (.tuple #[.int .i64 p.heads.1, .string p.heads.2]) ∧ Below w.heap.size w w' := by
  have hh : p.heads = p.exts.foldr (fun e st => hstep st e) (p.proto, ⟨#[]⟩) := by unfold Pk6.heads Pk6.st0; rw [hf]; rfl
  have HH := Lib.hid hh
  clear hh
  obtain ⟨zs, hz⟩ := ge_of p.exts hge
  have HG := Lib.hid (gs_of hx hz)
  have HZ := Lib.hid hz
  have hzl : zs.length ≤ 20 := by rw [← hz, List.length_map] at hl; exact hl
  obtain ⟨ao, cap, rfl, _⟩ := id hx
  have hzn : p.exts.length = zs.length := by rw [← hz, List.length_map]
  obtain ⟨V, hV, hVl, hD, hK⟩ := boxed6 p (.slice ao p.exts.length cap) w
  rw [← hV]
  clear hV
  have hS1 := (hK.new 3 [.int .i64 0]).new 9 [.string ⟨#[]⟩]
  have bN : Boxed (((w.alloc (.cells V.toArray 27)).alloc (.cells #[.int .i64 0] 3)).alloc (.cells #[.string ⟨#[]⟩] 9)) (w.heap.size + 1) 3 (.int .i64 0) := by
    have := (Boxed.new (w.alloc (.cells V.toArray 27)) 3 (.int .i64 0)).alloc (.cells #[.string ⟨#[]⟩] 9)
    simpa using this
  have bS : Boxed (((w.alloc (.cells V.toArray 27)).alloc (.cells #[.int .i64 0] 3)).alloc (.cells #[.string ⟨#[]⟩] 9)) (w.heap.size + 1 + 1) 9 (.string ⟨#[]⟩) := by
    have := Boxed.new ((w.alloc (.cells V.toArray 27)).alloc (.cells #[.int .i64 0] 3)) 9 (.string ⟨#[]⟩)
    simpa using this
  have hbB : Bk (((w.alloc (.cells V.toArray 27)).alloc (.cells #[.int .i64 0] 3)).alloc (.cells #[.string ⟨#[]⟩] 9)) w.heap.size 27 V.toArray := (hK.hd.alloc _).alloc _
  have hB0 : Below w.heap.size w (((w.alloc (.cells V.toArray 27)).alloc (.cells #[.int .i64 0] 3)).alloc (.cells #[.string ⟨#[]⟩] 9)) := hS1.2.1
  have hsz : (((w.alloc (.cells V.toArray 27)).alloc (.cells #[.int .i64 0] 3)).alloc (.cells #[.string ⟨#[]⟩] 9)).heap.size = w.heap.size + 3 := by simp
  have hb1 : Below (w.heap.size + 1) (w.alloc (.cells V.toArray 27)) (((w.alloc (.cells V.toArray 27)).alloc (.cells #[.int .i64 0] 3)).alloc (.cells #[.string ⟨#[]⟩] 9)) := ((Below.refl _ _).alloc (by simp) _).alloc (by simp) _
  have d35 := (hb1.cell (p := ⟨w.heap.size, 35, none⟩) (Nat.lt_succ_self _)).trans hD.c35
  have d36 := (hb1.cell (p := ⟨w.heap.size, 36, none⟩) (Nat.lt_succ_self _)).trans hD.c36
  have d40 := (hb1.cell (p := ⟨w.heap.size, 40, none⟩) (Nat.lt_succ_self _)).trans hD.c40
  have cN := bN.cell
  have zN := bN.frozen
  have BS := Lib.hid bS
  have BN := Lib.hid bN
  have BB := Lib.hid hbB
  have HB0 := Lib.hid hB0
  rw [hf] at d36
  clear hx hge hz hD hK hS1 bN bS hbB hB0 hb1 hf
  generalize hw1 : ((w.alloc (.cells V.toArray 27)).alloc (.cells #[.int .i64 0] 3)).alloc (.cells #[.string ⟨#[]⟩] 9) = w1 at *
  refine (callsIn_wide (n := 6)).1 ?_
  refine callsIn_of_wp_marks Try.func23 rfl trivial ?_
  simp only [Try.ntmps23, List.size_toArray, List.length_cons, List.length_nil, Nat.reduceAdd, Nat.reduceSub, Array.replicate_succ, Array.replicate_zero, List.push_toArray, List.append_toArray, List.nil_append, List.cons_append]
  refine wpIn_wide.2 ?_
  go_upto_region 1 with (fail)
  clear hw1
  go_wp2_with fail
  have BS1 := Lib.hid (BS.out.other (show w.heap.size + 1 + 1 ≠ w.heap.size + 1 by omega) (.int .i64 p.proto))
  have BN1 := Lib.hid (BN.out.set (.int .i64 p.proto))
  have HB1 := Lib.hid (HB0.out.setCell (p := ⟨w.heap.size + 1, 0, none⟩) (Nat.le_succ _) (.int .i64 p.proto))
  have hge3 : w.heap.size + 3 ≤ (w1.setCell ⟨w.heap.size + 1, 0, none⟩ (.int .i64 p.proto)).heap.size := by rw [← hsz]; simp [World.setCell]
  clear BS BN BB HB0 d35 d36 d40 cN zN hsz
  generalize hW1 : w1.setCell ⟨w.heap.size + 1, 0, none⟩ (.int .i64 p.proto) = W1 at *
  clear hW1
  refine (callsIn_wide.1 (back_in Fence.wide 1 trivial rfl ao zs.length cap _)).mono ?_
  rintro e w2 ⟨rfl, rfl⟩
  have bS0 := BS1.out.alloc (.cells #[.slice ao zs.length cap] 24)
  have bN0 := BN1.out.alloc (.cells #[.slice ao zs.length cap] 24)
  have bX0 := Boxed.new W1 24 (.slice ao zs.length cap)
  have hsz0 : (W1.alloc (.cells #[.slice ao zs.length cap] 24)).heap.size = W1.heap.size + 1 := by simp
  have hB0 := HB1.out.alloc (Nat.le_trans (Nat.le_add_right _ 3) hge3) (.cells #[.slice ao zs.length cap] 24)
  obtain ⟨Bs, hBs⟩ : ∃ Bs, Bs = W1.heap.size := ⟨_, rfl⟩
  rw [← hBs] at bX0 hge3 hsz0
  rw [← hBs]
  clear hBs
  generalize hW0 : W1.alloc (.cells #[.slice ao zs.length cap] 24) = W0 at *
  clear hW0
  have BS0 := Lib.hid bS0
  have BN0 := Lib.hid bN0
  have BX0 := Lib.hid bX0
  have HB0 := Lib.hid hB0
  clear bS0 bN0 bX0 hB0
  go_wp2_with fail
  refine (wpIn_wide (n := 6)).1 ?_
  have hG : Gs w.heap.size W0 (.slice ao zs.length cap) zs := by rw [← hzn]; exact HG.out.below HB0.out
  have HG0 := Lib.hid hG
  have hsF := hst_facts
  clear HG hG BS1 BN1 HB1
  refine wpIn_rangeFunc_ownH (n := 6) rfl (by omega) (gf := 52) (lb := #[.pointer (some ⟨Bs, 0, none⟩)]) rfl trivial (enters_of Try.func52 (by kernel_rfl) rfl)
    (back_stops Fence.wide (6 - 1) trivial rfl (by omega) (Bs) w.heap.size _ zs (by omega) W0 (by omega) (by omega) BX0.out.cell HG0.out) KpB.trans (kpB_b (by omega) (by omega)) (Below.refl _ _) (fun _ => rfl)
    (fun pre W => (Boxed W (w.heap.size + 1) 3 (.int .i64 (hst pre (p.proto, ⟨#[]⟩)).1) ∧ Boxed W (w.heap.size + 1 + 1) 9 (.string (hst pre (p.proto, ⟨#[]⟩)).2) ∧ Boxed W (Bs) 24 (.slice ao zs.length cap)) ∧ Below w.heap.size w W)
    (fun _ _ _ => False)
    (OwnFrom.and (OwnFrom.and (Own.from (boxed_own _ _ _) _) (OwnFrom.and (Own.from (boxed_own _ _ _) _) (Own.from (boxed_own (β := List (Nat × GE)) _ _ (fun _ => _)) _))) (ownFrom_below (Nat.le_refl _) (by omega)))
    (fun _ _ _ _ _ hs _ _ => hs)
    ⟨⟨BN0.out, BS0.out, BX0.out⟩, HB0.out⟩
    (fun x a' W => ∃ Bx, Bs < Bx ∧ Bk W Bx 57 #[.int .i64 x.2.1.1, .string x.2.1.2] ∧ a' = { tmps := #[.agg V.toArray, .pointer (some ⟨w.heap.size, 0, none⟩), .pointer (some ⟨w.heap.size + 1, 0, none⟩), .pointer (some ⟨w.heap.size + 1 + 1, 0, none⟩), undef, .pointer (some ⟨Bx, 0, none⟩), .pointer (some ⟨w.heap.size, 40, none⟩), .int .i64 p.proto, .pointer (some ⟨w.heap.size, 36, none⟩), .bool false, undef, undef, undef, undef, undef, undef, undef, undef, undef, undef, undef, undef, undef, .pointer (some ⟨w.heap.size, 35, none⟩), .slice ao zs.length cap, .func (.func 52) #[] #[.pointer (some ⟨Bs, 0, none⟩)], .int .i64 (x.1 : Int), .agg #[.int .i64 x.2.1.1, .string x.2.1.2], undef, undef, undef, undef, undef, undef, undef, undef, undef, undef, undef, undef, undef, undef, undef, undef, undef, undef], defers := [] })
    (fun x a' _ X Y row hs hg hr => by
      obtain ⟨Bx, h1, h2, h3⟩ := hs
      refine ⟨Bx, h1, h2.grown hg (fun e => ?_), h3⟩
      obtain ⟨_, ob, ho, hc⟩ := hr Bx e.symm
      rw [show X.heap[Bx]? = _ from h2] at ho
      cases ho
      cases hc)
    ?assign ?body ?done ?stop
  case assign =>
    rintro l pre x W K ⟨⟨bN1, bS1, bX1⟩, hB1⟩ hK
    dsimp only [encG]
    gi_wp2
    exact hK _ _ ((KeepsOthers.alloc _ _).from _) ⟨(Below.refl _ W).alloc hB1.size _, Below.heap_alloc _ _ _ bX1.lt⟩ ⟨⟨bN1.alloc _, bS1.alloc _, bX1.alloc _⟩, hB1.alloc hB1.size _⟩ ⟨W.heap.size, bX1.lt, bk_new _ _ _, rfl⟩
  case body =>
    rintro l pre x a' W hl2 ⟨r, hr⟩ ⟨⟨bN1, bS1, bX1⟩, hB1⟩ ⟨Bx, hBx, bX, rfl⟩ hlt
    have hf := hsF pre (p.proto, ⟨#[]⟩) hp
    have HM := Lib.hid (hst_snoc pre x (p.proto, ⟨#[]⟩))
    have hsz2 : (hst pre (p.proto, ⟨#[]⟩)).2.size ≤ 1099511627776 := by
      have := hf.2
      have h8 : (⟨#[]⟩ : ByteArray).size ≤ 8 := by exact Nat.zero_le _
      dsimp only at this
      omega
    obtain ⟨hf0, hf1⟩ := hf.1
    clear hf
    obtain ⟨i, ⟨⟨kd, bd⟩, hx1, hx2, hx3⟩⟩ := x
    dsimp only at bX hx1 hx2 hx3
    generalize hst pre (p.proto, ⟨#[]⟩) = st at *
    obtain ⟨nx, sx⟩ := st
    dsimp only at bN1 bS1 hf0 hf1 hsz2
    have A1 := Lib.hid (fun W => bigc1 nx W hf0 hf1)
    have A2 := Lib.hid (fun W => bigc1 (((bd.size : Int) - 6) / 8) W (by omega) (by omega))
    gi_wp2
    have hX : Boxed W.drew (w.heap.size + 1 + 1) 9 (.string sx) := bS1
    have k0 : IntKind.i64.wrap ((bd.size : Int) - 6) = (bd.size : Int) - 6 := IntWalk.i64_in _ (by omega)
    have k3 : ((bd.size : Int) - 6).tdiv 8 = ((bd.size : Int) - 6) / 8 := Int.tdiv_eq_ediv_of_nonneg (by omega)
    have k4 : IntKind.i64.wrap (((bd.size : Int) - 6) / 8) = ((bd.size : Int) - 6) / 8 := IntWalk.i64_in _ (by omega)
    have zc := cat_len
    have zs' := fun x : Int => (show (strOfNums [x]).size = 1 from rfl)
    have zo1 : ¬ 9223372036854775807 < 2 + bd.size := by omega
    have zo2 : ¬ 9223372036854775807 < 2 + bd.size + sx.size := by omega
    refine wpIn_region_held (S := fun w' => W.grownBy w' (some (w.heap.size + 1 + 1)) ∧ w'.cell? ⟨w.heap.size + 1, 0, none⟩ = some (.int .i64 nx) ∧ w'.cell? ⟨Bx, 1, none⟩ = some (.string bd)) (by kernel_rfl) (by kernel_rfl) (rs bN1 bX hge3 hBx (up_drew (up_refl W _))) (fun hHeld => ?_)
    refine wpAnyH_take (i := 0) (oi := { dst := some 28, op := Op.load 3 (Operand.tmp 2), type := 3, pos := "ip6.go:141", after := #[], guard := none }) (v := ?_) rfl (by kernel_rfl) (by kernel_rfl) (by kernel_rfl) (fun _ _ _ h => h) (Or.inl ⟨by rfl, ?_⟩) (by assumption) ?_
    rotate_left
    · (intro ww hSw; (try dsimp only at hSw); go_simp; try with_reducible rfl)
    (try simp only [Act.put, List.setIfInBounds_toArray, List.set_cons_zero, List.set_cons_succ])
    refine wpAnyH_take (i := 2) (oi := { dst := some 30, op := Op.fieldAddr 57 (Operand.tmp 5) 1, type := 0, pos := "ip6.go:141", after := #[], guard := none }) (v := ?_) rfl (by kernel_rfl) (by kernel_rfl) (by kernel_rfl) (fun _ _ _ h => h) (Or.inl ⟨by rfl, ?_⟩) (by assumption) ?_
    rotate_left
    · (intro ww hSw; (try dsimp only at hSw); go_simp; try with_reducible rfl)
    (try simp only [Act.put, List.setIfInBounds_toArray, List.set_cons_zero, List.set_cons_succ])
    refine wpAnyH_take (i := 3) (oi := { dst := some 31, op := Op.load 9 (Operand.tmp 30), type := 9, pos := "ip6.go:141", after := #[{ on := 2, ground := Ground.data }], guard := none }) (v := ?_) rfl (by kernel_rfl) (by kernel_rfl) (by kernel_rfl) (fun _ _ _ h => h) (Or.inl ⟨by rfl, ?_⟩) (by assumption) ?_
    rotate_left
    · (intro ww hSw; (try dsimp only at hSw); go_simp; try with_reducible rfl)
    (try simp only [Act.put, List.setIfInBounds_toArray, List.set_cons_zero, List.set_cons_succ])
    refine wpAnyH_take (i := 4) (oi := { dst := some 32, op := Op.call { callee := Callee.builtin Builtin.len, args := #[Operand.tmp 31], argTypes := #[9] }, type := 3, pos := "ip6.go:141", after := #[{ on := 3, ground := Ground.data }], guard := none }) (v := ?_) rfl (by kernel_rfl) (by kernel_rfl) (by kernel_rfl) (fun _ _ _ h => h) (Or.inl ⟨by rfl, ?_⟩) (by assumption) ?_
    rotate_left
    · (intro ww hSw; (try dsimp only at hSw); go_simp; try with_reducible rfl)
    (try simp only [Act.put, List.setIfInBounds_toArray, List.set_cons_zero, List.set_cons_succ])
    refine wpAnyH_take (i := 5) (oi := { dst := some 33, op := Op.binOp BinOp.sub 3 (Operand.tmp 32) (Operand.const (Value.int IntKind.i64 6)) 3, type := 3, pos := "ip6.go:141", after := #[{ on := 4, ground := Ground.data }], guard := none }) (v := ?_) rfl (by kernel_rfl) (by kernel_rfl) (by kernel_rfl) (fun _ _ _ h => h) (Or.inl ⟨by rfl, ?_⟩) (by assumption) ?_
    rotate_left
    · (intro ww hSw; (try dsimp only at hSw); go_simp; try with_reducible rfl)
    (try simp only [Act.put, List.setIfInBounds_toArray, List.set_cons_zero, List.set_cons_succ])
    refine wpAnyH_take (i := 6) (oi := { dst := some 34, op := Op.binOp BinOp.quo 3 (Operand.tmp 33) (Operand.const (Value.int IntKind.i64 8)) 3, type := 3, pos := "ip6.go:141", after := #[{ on := 5, ground := Ground.data }], guard := none }) (v := ?_) rfl (by kernel_rfl) (by kernel_rfl) (by kernel_rfl) (fun _ _ _ h => h) (Or.inl ⟨by rfl, ?_⟩) (by assumption) ?_
    rotate_left
    · (intro ww hSw; (try dsimp only at hSw); go_simp; try with_reducible rfl)
    (try simp only [Act.put, List.setIfInBounds_toArray, List.set_cons_zero, List.set_cons_succ])
    refine wpAnyH_take (i := 9) (oi := { dst := some 37, op := Op.fieldAddr 57 (Operand.tmp 5) 1, type := 0, pos := "ip6.go:141", after := #[], guard := none }) (v := ?_) rfl (by kernel_rfl) (by kernel_rfl) (by kernel_rfl) (fun _ _ _ h => h) (Or.inl ⟨by rfl, ?_⟩) (by assumption) ?_
    rotate_left
    · (intro ww hSw; (try dsimp only at hSw); go_simp; try with_reducible rfl)
    (try simp only [Act.put, List.setIfInBounds_toArray, List.set_cons_zero, List.set_cons_succ])
    refine wpAnyH_take (i := 10) (oi := { dst := some 38, op := Op.load 9 (Operand.tmp 37), type := 9, pos := "ip6.go:141", after := #[{ on := 9, ground := Ground.data }], guard := none }) (v := ?_) rfl (by kernel_rfl) (by kernel_rfl) (by kernel_rfl) (fun _ _ _ h => h) (Or.inl ⟨by rfl, ?_⟩) (by assumption) ?_
    rotate_left
    · (intro ww hSw; (try dsimp only at hSw); go_simp; try with_reducible rfl)
    (try simp only [Act.put, List.setIfInBounds_toArray, List.set_cons_zero, List.set_cons_succ])
    refine wpAnyH_ready (rs := [1, 12]) (by kernel_rfl) (by simp) ?_
    refine AllReadyH.cons (o := { dst := some 29, op := Op.call { callee := Callee.value (Operand.func 24), args := #[Operand.tmp 28, Operand.const (Value.int IntKind.i64 1)], argTypes := #[3, 3] }, type := 9, pos := "ip6.go:141", after := #[{ on := 0, ground := Ground.data }], guard := none }) rfl (fun K hK => ?_) (AllReadyH.cons (o := { dst := some 40, op := Op.load 9 (Operand.tmp 3), type := 9, pos := "ip6.go:141", after := #[], guard := none }) rfl (fun K hK => ?_) AllReadyH.nil)
    · go_simp
      ((with_reducible refine (A1.out _).mono ?_); rintro e w9 ⟨rfl, hb9⟩)
      refine hK.out _ _ (rs bN1 bX hge3 hBx (up_trans (And.left hHeld) (up_below hb9))) (fun hHeld => ?_)
      clear hK K
      (try simp only [Act.put, List.setIfInBounds_toArray, List.set_cons_zero, List.set_cons_succ])
      have hX := Boxed.below' hX hb9 hX.lt
      refine wpAnyH_ready (rs := [7, 12]) (by kernel_rfl) (by simp) ?_
      refine AllReadyH.cons (o := { dst := some 35, op := Op.call { callee := Callee.value (Operand.func 24), args := #[Operand.tmp 34, Operand.const (Value.int IntKind.i64 1)], argTypes := #[3, 3] }, type := 9, pos := "ip6.go:141", after := #[{ on := 6, ground := Ground.data }, { on := 1, ground := Ground.chain }], guard := none }) rfl (fun K hK => ?_) (AllReadyH.cons (o := { dst := some 40, op := Op.load 9 (Operand.tmp 3), type := 9, pos := "ip6.go:141", after := #[], guard := none }) rfl (fun K hK => ?_) AllReadyH.nil)
      · go_simp
        ((with_reducible refine (A2.out _).mono ?_); rintro e w9 ⟨rfl, hb9⟩)
        refine hK.out _ _ (rs bN1 bX hge3 hBx (up_trans (And.left hHeld) (up_below hb9))) (fun hHeld => ?_)
        clear hK K
        (try simp only [Act.put, List.setIfInBounds_toArray, List.set_cons_zero, List.set_cons_succ])
        have hX := Boxed.below' hX hb9 hX.lt
        refine wpAnyH_take (i := 8) (oi := { dst := some 36, op := Op.binOp BinOp.add 9 (Operand.tmp 29) (Operand.tmp 35) 9, type := 9, pos := "ip6.go:141", after := #[{ on := 1, ground := Ground.data }, { on := 7, ground := Ground.data }], guard := none }) (v := ?_) rfl (by kernel_rfl) (by kernel_rfl) (by kernel_rfl) (fun _ _ _ h => h) (Or.inl ⟨by rfl, ?_⟩) (by assumption) ?_
        rotate_left
        · (intro ww hSw; (try dsimp only at hSw); go_simp; try with_reducible rfl)
        (try simp only [Act.put, List.setIfInBounds_toArray, List.set_cons_zero, List.set_cons_succ])
        refine wpAnyH_take (i := 11) (oi := { dst := some 39, op := Op.binOp BinOp.add 9 (Operand.tmp 36) (Operand.tmp 38) 9, type := 9, pos := "ip6.go:141", after := #[{ on := 8, ground := Ground.data }, { on := 10, ground := Ground.data }], guard := none }) (v := ?_) rfl (by kernel_rfl) (by kernel_rfl) (by kernel_rfl) (fun _ _ _ h => h) (Or.inl ⟨by rfl, ?_⟩) (by assumption) ?_
        rotate_left
        · (intro ww hSw; (try dsimp only at hSw); go_simp; try with_reducible rfl)
        (try simp only [Act.put, List.setIfInBounds_toArray, List.set_cons_zero, List.set_cons_succ])
        refine wpAnyH_ready (rs := [12]) (by kernel_rfl) (by simp) ?_
        refine AllReadyH.cons (o := { dst := some 40, op := Op.load 9 (Operand.tmp 3), type := 9, pos := "ip6.go:141", after := #[], guard := none }) rfl (fun K hK => ?_) AllReadyH.nil
        have cX := hX.cell
        go_simp
        refine hK.out _ _ (hHeld) (fun hHeld => ?_)
        clear hK K
        (try simp only [Act.put, List.setIfInBounds_toArray, List.set_cons_zero, List.set_cons_succ])
        refine wpAnyH_take (i := 13) (oi := { dst := some 41, op := Op.binOp BinOp.add 9 (Operand.tmp 39) (Operand.tmp 40) 9, type := 9, pos := "ip6.go:141", after := #[{ on := 11, ground := Ground.data }, { on := 12, ground := Ground.data }], guard := none }) (v := ?_) rfl (by kernel_rfl) (by kernel_rfl) (by kernel_rfl) (fun _ _ _ h => h) (Or.inl ⟨by rfl, ?_⟩) (by assumption) ?_
        rotate_left
        · (intro ww hSw; (try dsimp only at hSw); go_simp; try with_reducible rfl)
        (try simp only [Act.put, List.setIfInBounds_toArray, List.set_cons_zero, List.set_cons_succ])
        refine wpAnyH_ready (rs := [14]) (by kernel_rfl) (by simp) ?_
        refine AllReadyH.cons (o := { dst := none, op := Op.store 9 (Operand.tmp 3) (Operand.tmp 41), type := 0, pos := "ip6.go:141", after := #[{ on := 13, ground := Ground.data }, { on := 7, ground := Ground.chain }, { on := 0, ground := Ground.phase }, { on := 1, ground := Ground.phase }, { on := 2, ground := Ground.phase }, { on := 3, ground := Ground.phase }, { on := 4, ground := Ground.phase }, { on := 5, ground := Ground.phase }, { on := 6, ground := Ground.phase }, { on := 7, ground := Ground.phase }, { on := 8, ground := Ground.phase }, { on := 9, ground := Ground.phase }, { on := 10, ground := Ground.phase }, { on := 11, ground := Ground.phase }, { on := 12, ground := Ground.phase }, { on := 13, ground := Ground.phase }], guard := none }) rfl (fun K hK => ?_) AllReadyH.nil
        have cX := hX.cell
        have zX := hX.frozen
        go_simp
        refine hK.out _ _ (rs bN1 bX hge3 hBx (up_set (And.left hHeld) 0 _)) (fun hHeld => ?_)
        clear hK K
        (try simp only [Act.put])
        refine wpAnyH_done (by kernel_rfl) ?_ _
        refine QN.normal ?_
        have hg9 := And.left hHeld
        have hX2 := hX.set (.string (strOfNums [nx] ++ strOfNums [((bd.size : Int) - 6) / 8] ++ bd ++ sx))
        have bN2 := bN1.kept hg9 (fun e => by injection e with e; omega)
        have bX2 := bX.grown hg9 (fun e => by injection e with e; omega)
        have bB2 := bX1.kept hg9 (fun e => by injection e with e; omega)
        generalize hYY : strOfNums [nx] ++ strOfNums [((bd.size : Int) - 6) / 8] ++ bd ++ sx = Y at *
        generalize w9.setCell ⟨w.heap.size + 1 + 1, 0, none⟩ (.string Y) = w10 at *
        clear hHeld hX cX zX A1 A2 k0 k3 k4 zc zs' zo1 zo2
        have cN := bN2.cell
        have zN := bN2.frozen
        have cX := bX2.c 0 _ rfl
        gi_wp2
        have hM := HM.out
        unfold hstep at hM
        dsimp only at hM
        rw [hYY] at hM
        exact ⟨(KeepsFrom.of_grownBy (row := some (w.heap.size + 1 + 1)) hg9 (fun j e => by injection e with e; omega)).trans ((KeepsOthers.setCell _ _ _).from _), ⟨((Below.refl _ _).grown hg9 hB1.size (fun k e => by injection e with e; omega)).setCell (p := ⟨w.heap.size + 1, 0, none⟩) (Nat.le_succ _) _, (Below.heap_setCell _ _ _ _ (by show Bs ≠ w.heap.size + 1; omega)).trans (hg9.block _ bX1.lt (fun e => by injection e with e; omega))⟩, ⟨by rw [hM]; exact bN2.set _, by rw [hM]; exact hX2.other (by omega) _, bB2.other (by omega) _⟩, (hB1.grown hg9 hB1.size (fun k e => by injection e with e; omega)).setCell (p := ⟨w.heap.size + 1, 0, none⟩) (Nat.le_succ _) _⟩
      · have cX := hX.cell
        go_simp
        refine hK.out _ _ (hHeld) (fun hHeld => ?_)
        clear hK K
        (try simp only [Act.put, List.setIfInBounds_toArray, List.set_cons_zero, List.set_cons_succ])
        refine wpAnyH_ready (rs := [7]) (by kernel_rfl) (by simp) ?_
        refine AllReadyH.cons (o := { dst := some 35, op := Op.call { callee := Callee.value (Operand.func 24), args := #[Operand.tmp 34, Operand.const (Value.int IntKind.i64 1)], argTypes := #[3, 3] }, type := 9, pos := "ip6.go:141", after := #[{ on := 6, ground := Ground.data }, { on := 1, ground := Ground.chain }], guard := none }) rfl (fun K hK => ?_) AllReadyH.nil
        go_simp
        ((with_reducible refine (A2.out _).mono ?_); rintro e w9 ⟨rfl, hb9⟩)
        refine hK.out _ _ (rs bN1 bX hge3 hBx (up_trans (And.left hHeld) (up_below hb9))) (fun hHeld => ?_)
        clear hK K
        (try simp only [Act.put, List.setIfInBounds_toArray, List.set_cons_zero, List.set_cons_succ])
        have hX := Boxed.below' hX hb9 hX.lt
        refine wpAnyH_take (i := 8) (oi := { dst := some 36, op := Op.binOp BinOp.add 9 (Operand.tmp 29) (Operand.tmp 35) 9, type := 9, pos := "ip6.go:141", after := #[{ on := 1, ground := Ground.data }, { on := 7, ground := Ground.data }], guard := none }) (v := ?_) rfl (by kernel_rfl) (by kernel_rfl) (by kernel_rfl) (fun _ _ _ h => h) (Or.inl ⟨by rfl, ?_⟩) (by assumption) ?_
        rotate_left
        · (intro ww hSw; (try dsimp only at hSw); go_simp; try with_reducible rfl)
        (try simp only [Act.put, List.setIfInBounds_toArray, List.set_cons_zero, List.set_cons_succ])
        refine wpAnyH_take (i := 11) (oi := { dst := some 39, op := Op.binOp BinOp.add 9 (Operand.tmp 36) (Operand.tmp 38) 9, type := 9, pos := "ip6.go:141", after := #[{ on := 8, ground := Ground.data }, { on := 10, ground := Ground.data }], guard := none }) (v := ?_) rfl (by kernel_rfl) (by kernel_rfl) (by kernel_rfl) (fun _ _ _ h => h) (Or.inl ⟨by rfl, ?_⟩) (by assumption) ?_
        rotate_left
        · (intro ww hSw; (try dsimp only at hSw); go_simp; try with_reducible rfl)
        (try simp only [Act.put, List.setIfInBounds_toArray, List.set_cons_zero, List.set_cons_succ])
        refine wpAnyH_take (i := 13) (oi := { dst := some 41, op := Op.binOp BinOp.add 9 (Operand.tmp 39) (Operand.tmp 40) 9, type := 9, pos := "ip6.go:141", after := #[{ on := 11, ground := Ground.data }, { on := 12, ground := Ground.data }], guard := none }) (v := ?_) rfl (by kernel_rfl) (by kernel_rfl) (by kernel_rfl) (fun _ _ _ h => h) (Or.inl ⟨by rfl, ?_⟩) (by assumption) ?_
        rotate_left
        · (intro ww hSw; (try dsimp only at hSw); go_simp; try with_reducible rfl)
        (try simp only [Act.put, List.setIfInBounds_toArray, List.set_cons_zero, List.set_cons_succ])
        refine wpAnyH_ready (rs := [14]) (by kernel_rfl) (by simp) ?_
        refine AllReadyH.cons (o := { dst := none, op := Op.store 9 (Operand.tmp 3) (Operand.tmp 41), type := 0, pos := "ip6.go:141", after := #[{ on := 13, ground := Ground.data }, { on := 7, ground := Ground.chain }, { on := 0, ground := Ground.phase }, { on := 1, ground := Ground.phase }, { on := 2, ground := Ground.phase }, { on := 3, ground := Ground.phase }, { on := 4, ground := Ground.phase }, { on := 5, ground := Ground.phase }, { on := 6, ground := Ground.phase }, { on := 7, ground := Ground.phase }, { on := 8, ground := Ground.phase }, { on := 9, ground := Ground.phase }, { on := 10, ground := Ground.phase }, { on := 11, ground := Ground.phase }, { on := 12, ground := Ground.phase }, { on := 13, ground := Ground.phase }], guard := none }) rfl (fun K hK => ?_) AllReadyH.nil
        have cX := hX.cell
        have zX := hX.frozen
        go_simp
        refine hK.out _ _ (rs bN1 bX hge3 hBx (up_set (And.left hHeld) 0 _)) (fun hHeld => ?_)
        clear hK K
        (try simp only [Act.put])
        refine wpAnyH_done (by kernel_rfl) ?_ _
        refine QN.normal ?_
        have hg9 := And.left hHeld
        have hX2 := hX.set (.string (strOfNums [nx] ++ strOfNums [((bd.size : Int) - 6) / 8] ++ bd ++ sx))
        have bN2 := bN1.kept hg9 (fun e => by injection e with e; omega)
        have bX2 := bX.grown hg9 (fun e => by injection e with e; omega)
        have bB2 := bX1.kept hg9 (fun e => by injection e with e; omega)
        generalize hYY : strOfNums [nx] ++ strOfNums [((bd.size : Int) - 6) / 8] ++ bd ++ sx = Y at *
        generalize w9.setCell ⟨w.heap.size + 1 + 1, 0, none⟩ (.string Y) = w10 at *
        clear hHeld hX cX zX A1 A2 k0 k3 k4 zc zs' zo1 zo2
        have cN := bN2.cell
        have zN := bN2.frozen
        have cX := bX2.c 0 _ rfl
        gi_wp2
        have hM := HM.out
        unfold hstep at hM
        dsimp only at hM
        rw [hYY] at hM
        exact ⟨(KeepsFrom.of_grownBy (row := some (w.heap.size + 1 + 1)) hg9 (fun j e => by injection e with e; omega)).trans ((KeepsOthers.setCell _ _ _).from _), ⟨((Below.refl _ _).grown hg9 hB1.size (fun k e => by injection e with e; omega)).setCell (p := ⟨w.heap.size + 1, 0, none⟩) (Nat.le_succ _) _, (Below.heap_setCell _ _ _ _ (by show Bs ≠ w.heap.size + 1; omega)).trans (hg9.block _ bX1.lt (fun e => by injection e with e; omega))⟩, ⟨by rw [hM]; exact bN2.set _, by rw [hM]; exact hX2.other (by omega) _, bB2.other (by omega) _⟩, (hB1.grown hg9 hB1.size (fun k e => by injection e with e; omega)).setCell (p := ⟨w.heap.size + 1, 0, none⟩) (Nat.le_succ _) _⟩
    · have cX := hX.cell
      go_simp
      refine hK.out _ _ (hHeld) (fun hHeld => ?_)
      clear hK K
      (try simp only [Act.put, List.setIfInBounds_toArray, List.set_cons_zero, List.set_cons_succ])
      refine wpAnyH_ready (rs := [1]) (by kernel_rfl) (by simp) ?_
      refine AllReadyH.cons (o := { dst := some 29, op := Op.call { callee := Callee.value (Operand.func 24), args := #[Operand.tmp 28, Operand.const (Value.int IntKind.i64 1)], argTypes := #[3, 3] }, type := 9, pos := "ip6.go:141", after := #[{ on := 0, ground := Ground.data }], guard := none }) rfl (fun K hK => ?_) AllReadyH.nil
      go_simp
      ((with_reducible refine (A1.out _).mono ?_); rintro e w9 ⟨rfl, hb9⟩)
      refine hK.out _ _ (rs bN1 bX hge3 hBx (up_trans (And.left hHeld) (up_below hb9))) (fun hHeld => ?_)
      clear hK K
      (try simp only [Act.put, List.setIfInBounds_toArray, List.set_cons_zero, List.set_cons_succ])
      have hX := Boxed.below' hX hb9 hX.lt
      refine wpAnyH_ready (rs := [7]) (by kernel_rfl) (by simp) ?_
      refine AllReadyH.cons (o := { dst := some 35, op := Op.call { callee := Callee.value (Operand.func 24), args := #[Operand.tmp 34, Operand.const (Value.int IntKind.i64 1)], argTypes := #[3, 3] }, type := 9, pos := "ip6.go:141", after := #[{ on := 6, ground := Ground.data }, { on := 1, ground := Ground.chain }], guard := none }) rfl (fun K hK => ?_) AllReadyH.nil
      go_simp
      ((with_reducible refine (A2.out _).mono ?_); rintro e w9 ⟨rfl, hb9⟩)
      refine hK.out _ _ (rs bN1 bX hge3 hBx (up_trans (And.left hHeld) (up_below hb9))) (fun hHeld => ?_)
      clear hK K
      (try simp only [Act.put, List.setIfInBounds_toArray, List.set_cons_zero, List.set_cons_succ])
      have hX := Boxed.below' hX hb9 hX.lt
      refine wpAnyH_take (i := 8) (oi := { dst := some 36, op := Op.binOp BinOp.add 9 (Operand.tmp 29) (Operand.tmp 35) 9, type := 9, pos := "ip6.go:141", after := #[{ on := 1, ground := Ground.data }, { on := 7, ground := Ground.data }], guard := none }) (v := ?_) rfl (by kernel_rfl) (by kernel_rfl) (by kernel_rfl) (fun _ _ _ h => h) (Or.inl ⟨by rfl, ?_⟩) (by assumption) ?_
      rotate_left
      · (intro ww hSw; (try dsimp only at hSw); go_simp; try with_reducible rfl)
      (try simp only [Act.put, List.setIfInBounds_toArray, List.set_cons_zero, List.set_cons_succ])
      refine wpAnyH_take (i := 11) (oi := { dst := some 39, op := Op.binOp BinOp.add 9 (Operand.tmp 36) (Operand.tmp 38) 9, type := 9, pos := "ip6.go:141", after := #[{ on := 8, ground := Ground.data }, { on := 10, ground := Ground.data }], guard := none }) (v := ?_) rfl (by kernel_rfl) (by kernel_rfl) (by kernel_rfl) (fun _ _ _ h => h) (Or.inl ⟨by rfl, ?_⟩) (by assumption) ?_
      rotate_left
      · (intro ww hSw; (try dsimp only at hSw); go_simp; try with_reducible rfl)
      (try simp only [Act.put, List.setIfInBounds_toArray, List.set_cons_zero, List.set_cons_succ])
      refine wpAnyH_take (i := 13) (oi := { dst := some 41, op := Op.binOp BinOp.add 9 (Operand.tmp 39) (Operand.tmp 40) 9, type := 9, pos := "ip6.go:141", after := #[{ on := 11, ground := Ground.data }, { on := 12, ground := Ground.data }], guard := none }) (v := ?_) rfl (by kernel_rfl) (by kernel_rfl) (by kernel_rfl) (fun _ _ _ h => h) (Or.inl ⟨by rfl, ?_⟩) (by assumption) ?_
      rotate_left
      · (intro ww hSw; (try dsimp only at hSw); go_simp; try with_reducible rfl)
      (try simp only [Act.put, List.setIfInBounds_toArray, List.set_cons_zero, List.set_cons_succ])
      refine wpAnyH_ready (rs := [14]) (by kernel_rfl) (by simp) ?_
      refine AllReadyH.cons (o := { dst := none, op := Op.store 9 (Operand.tmp 3) (Operand.tmp 41), type := 0, pos := "ip6.go:141", after := #[{ on := 13, ground := Ground.data }, { on := 7, ground := Ground.chain }, { on := 0, ground := Ground.phase }, { on := 1, ground := Ground.phase }, { on := 2, ground := Ground.phase }, { on := 3, ground := Ground.phase }, { on := 4, ground := Ground.phase }, { on := 5, ground := Ground.phase }, { on := 6, ground := Ground.phase }, { on := 7, ground := Ground.phase }, { on := 8, ground := Ground.phase }, { on := 9, ground := Ground.phase }, { on := 10, ground := Ground.phase }, { on := 11, ground := Ground.phase }, { on := 12, ground := Ground.phase }, { on := 13, ground := Ground.phase }], guard := none }) rfl (fun K hK => ?_) AllReadyH.nil
      have cX := hX.cell
      have zX := hX.frozen
      go_simp
      refine hK.out _ _ (rs bN1 bX hge3 hBx (up_set (And.left hHeld) 0 _)) (fun hHeld => ?_)
      clear hK K
      (try simp only [Act.put])
      refine wpAnyH_done (by kernel_rfl) ?_ _
      refine QN.normal ?_
      have hg9 := And.left hHeld
      have hX2 := hX.set (.string (strOfNums [nx] ++ strOfNums [((bd.size : Int) - 6) / 8] ++ bd ++ sx))
      have bN2 := bN1.kept hg9 (fun e => by injection e with e; omega)
      have bX2 := bX.grown hg9 (fun e => by injection e with e; omega)
      have bB2 := bX1.kept hg9 (fun e => by injection e with e; omega)
      generalize hYY : strOfNums [nx] ++ strOfNums [((bd.size : Int) - 6) / 8] ++ bd ++ sx = Y at *
      generalize w9.setCell ⟨w.heap.size + 1 + 1, 0, none⟩ (.string Y) = w10 at *
      clear hHeld hX cX zX A1 A2 k0 k3 k4 zc zs' zo1 zo2
      have cN := bN2.cell
      have zN := bN2.frozen
      have cX := bX2.c 0 _ rfl
      gi_wp2
      have hM := HM.out
      unfold hstep at hM
      dsimp only at hM
      rw [hYY] at hM
      exact ⟨(KeepsFrom.of_grownBy (row := some (w.heap.size + 1 + 1)) hg9 (fun j e => by injection e with e; omega)).trans ((KeepsOthers.setCell _ _ _).from _), ⟨((Below.refl _ _).grown hg9 hB1.size (fun k e => by injection e with e; omega)).setCell (p := ⟨w.heap.size + 1, 0, none⟩) (Nat.le_succ _) _, (Below.heap_setCell _ _ _ _ (by show Bs ≠ w.heap.size + 1; omega)).trans (hg9.block _ bX1.lt (fun e => by injection e with e; omega))⟩, ⟨by rw [hM]; exact bN2.set _, by rw [hM]; exact hX2.other (by omega) _, bB2.other (by omega) _⟩, (hB1.grown hg9 hB1.size (fun k e => by injection e with e; omega)).setCell (p := ⟨w.heap.size + 1, 0, none⟩) (Nat.le_succ _) _⟩
  case done =>
    rintro D ys W hD rfl ⟨⟨bN1, bS1, bX1⟩, hB1⟩ hK
    have cN := bN1.cell
    have cS := bS1.cell
    have zN := bN1.frozen
    have zS := bS1.frozen
    have HA := Lib.hid (hst_all zs (p.proto, ⟨#[]⟩))
    go_wp2_with fail
    generalize hst (uptoE (dn zs) zs.length) (p.proto, ⟨#[]⟩) = st at *
    go_region
    go_wp2_with fail
    have hne1 : D ≠ w.heap.size + 1 := by omega
    have hne2 : D ≠ w.heap.size + 1 + 1 := by omega
    have hK' : ((W.setCell ⟨w.heap.size + 1, 0, none⟩ (.int .i64 st.1)).setCell ⟨w.heap.size + 1 + 1, 0, none⟩ (.string st.2)).drew.heap[D]? = some (.deferred (some [])) := (Below.heap_setCell _ _ _ _ hne2).trans ((Below.heap_setCell _ _ _ _ hne1).trans hK)
    have bN5 : Boxed ((W.setCell ⟨w.heap.size + 1, 0, none⟩ (.int .i64 st.1)).setCell ⟨w.heap.size + 1 + 1, 0, none⟩ (.string st.2)).drew (w.heap.size + 1) 3 (.int .i64 st.1) := (bN1.set _).other (by omega) _
    have bS5 : Boxed ((W.setCell ⟨w.heap.size + 1, 0, none⟩ (.int .i64 st.1)).setCell ⟨w.heap.size + 1 + 1, 0, none⟩ (.string st.2)).drew (w.heap.size + 1 + 1) 9 (.string st.2) := (bS1.other (by omega) _).set _
    have hB5 := ((hB1.setCell (p := ⟨w.heap.size + 1, 0, none⟩) (Nat.le_succ _) (.int .i64 st.1)).setCell (p := ⟨w.heap.size + 1 + 1, 0, none⟩) (by show w.heap.size ≤ w.heap.size + 1 + 1; omega) (.string st.2)).drew
    generalize ((W.setCell ⟨w.heap.size + 1, 0, none⟩ (.int .i64 st.1)).setCell ⟨w.heap.size + 1 + 1, 0, none⟩ (.string st.2)).drew = w5 at *
    refine ⟨by simp, .inl ⟨_, _, rfl, run_takeDeferred hK', ?_⟩⟩
    have cN5 := cell_kept bN5.cell (grownBy_putObj' _ D (.deferred none)) (fun r e => by cases e; exact ⟨_, hK', rfl⟩)
    have cS5 := cell_kept bS5.cell (grownBy_putObj' _ D (.deferred none)) (fun r e => by cases e; exact ⟨_, hK', rfl⟩)
    refine ⟨.tuple #[.int .i64 st.1, .string st.2], by simp [results, Try.results23, go_sem, cN5, cS5], ?_, hB5.trans (belowK_b (w := w) (Nat.le_refl _) _ D _ _ (by omega) hK' rfl rfl)⟩
    have hA := HA.out
    rw [HZ.out] at hA
    rw [HH.out, hA]
  case stop =>
    rintro D c pre W _ _ h _
    exact h.elim
set_option maxRecDepth 100000 in
set_option maxHeartbeats 2000000 in
theorem heads_frag (p : Pk6) (v : Value) (w : World) (hx : Exs w v p.exts) (hl : p.exts.length ≤ 20) (hp : 0 ≤ p.proto ∧ p.proto < 256) (h0 : 0 ≤ p.pl) (h1 : p.pl ≤ 65528) (h8 : p.pl % 8 = 0) (hi : 0 ≤ p.id ∧ p.id < 4294967296) (hge : ∀ e ∈ p.exts, isEx e.1 ∧ e.2.size ≤ 2046 ∧ e.2.size % 8 = 6) (hf : p.frag = true) :
    Calls Try.prog 23 #[.agg (p.vals v).toArray] w fun e w' => e = .returned (.tuple #[.int .i64 p.heads.1, .string p.heads.2]) ∧ Below w.heap.size w w' := by
  have hh : p.heads = p.exts.foldr (fun e st => hstep st e) (44, p.fragB) := by unfold Pk6.heads Pk6.st0; rw [hf]; rfl
  have HH := Lib.hid hh
  clear hh
  obtain ⟨zs, hz⟩ := ge_of p.exts hge
  have HG := Lib.hid (gs_of hx hz)
  have HZ := Lib.hid hz
  have hzl : zs.length ≤ 20 := by rw [← hz, List.length_map] at hl; exact hl
  obtain ⟨ao, cap, rfl, _⟩ := id hx
  have hzn : p.exts.length = zs.length := by rw [← hz, List.length_map]
  obtain ⟨V, hV, hVl, hD, hK⟩ := boxed6 p (.slice ao p.exts.length cap) w
  rw [← hV]
  have hv35 : V[35]? = some (.slice ao p.exts.length cap) := by rw [hV]; exact vals_tail p _ 0
  have hv37 : V[37]? = some (.int .u32 p.id) := by rw [hV]; exact vals_tail p _ 2
  have HIv : Hid ((Try.prog.info? 27).map (·.size) = some V.length) := Lib.hid (by rw [hV]; exact Try.info6 p _)
  have HW : Hid (∀ W, Calls Try.prog 42 #[.agg V.toArray] W fun e w' => e = .returned (.int .i64 p.place) ∧ Below W.heap.size W w') := Lib.hid (fun W => by rw [hV]; exact placeWord_any p _ W h0 (by omega) h8)
  have hpl : 0 ≤ p.place ∧ p.place < 65536 := by unfold Pk6.place; split <;> omega
  have A1 := Lib.hid (fun W => bigc1 p.proto W hp.1 hp.2)
  have A0 := Lib.hid (fun W => bigc1 0 W (by omega) (by omega))
  have A2 := Lib.hid (fun W => bigc2 p.place W hpl.1 hpl.2)
  have A4 := Lib.hid (fun W => bigc4 p.id W hi.1 hi.2)
  clear hV
  have hS1 := (hK.new 3 [.int .i64 0]).new 9 [.string ⟨#[]⟩]
  have bN : Boxed (((w.alloc (.cells V.toArray 27)).alloc (.cells #[.int .i64 0] 3)).alloc (.cells #[.string ⟨#[]⟩] 9)) (w.heap.size + 1) 3 (.int .i64 0) := by
    have := (Boxed.new (w.alloc (.cells V.toArray 27)) 3 (.int .i64 0)).alloc (.cells #[.string ⟨#[]⟩] 9)
    simpa using this
  have bS : Boxed (((w.alloc (.cells V.toArray 27)).alloc (.cells #[.int .i64 0] 3)).alloc (.cells #[.string ⟨#[]⟩] 9)) (w.heap.size + 1 + 1) 9 (.string ⟨#[]⟩) := by
    have := Boxed.new ((w.alloc (.cells V.toArray 27)).alloc (.cells #[.int .i64 0] 3)) 9 (.string ⟨#[]⟩)
    simpa using this
  have hbB : Bk (((w.alloc (.cells V.toArray 27)).alloc (.cells #[.int .i64 0] 3)).alloc (.cells #[.string ⟨#[]⟩] 9)) w.heap.size 27 V.toArray := (hK.hd.alloc _).alloc _
  have hB0 : Below w.heap.size w (((w.alloc (.cells V.toArray 27)).alloc (.cells #[.int .i64 0] 3)).alloc (.cells #[.string ⟨#[]⟩] 9)) := hS1.2.1
  have hsz : (((w.alloc (.cells V.toArray 27)).alloc (.cells #[.int .i64 0] 3)).alloc (.cells #[.string ⟨#[]⟩] 9)).heap.size = w.heap.size + 3 := by simp
  have hb1 : Below (w.heap.size + 1) (w.alloc (.cells V.toArray 27)) (((w.alloc (.cells V.toArray 27)).alloc (.cells #[.int .i64 0] 3)).alloc (.cells #[.string ⟨#[]⟩] 9)) := ((Below.refl _ _).alloc (by simp) _).alloc (by simp) _
  have d35 := (hb1.cell (p := ⟨w.heap.size, 35, none⟩) (Nat.lt_succ_self _)).trans hD.c35
  have d36 := (hb1.cell (p := ⟨w.heap.size, 36, none⟩) (Nat.lt_succ_self _)).trans hD.c36
  have d37 := (hb1.cell (p := ⟨w.heap.size, 37, none⟩) (Nat.lt_succ_self _)).trans hD.c37
  have d40 := (hb1.cell (p := ⟨w.heap.size, 40, none⟩) (Nat.lt_succ_self _)).trans hD.c40
  have cN := bN.cell
  have zN := bN.frozen
  have BS := Lib.hid bS
  have BN := Lib.hid bN
  have BB := Lib.hid hbB
  have HB0 := Lib.hid hB0
  rw [hf] at d36
  clear hx hge hz hD hK hS1 bN bS hbB hB0 hb1 hf
  generalize hw1 : ((w.alloc (.cells V.toArray 27)).alloc (.cells #[.int .i64 0] 3)).alloc (.cells #[.string ⟨#[]⟩] 9) = w1 at *
  refine (callsIn_wide (n := 6)).1 ?_
  refine callsIn_of_wp_marks Try.func23 rfl trivial ?_
  simp only [Try.ntmps23, List.size_toArray, List.length_cons, List.length_nil, Nat.reduceAdd, Nat.reduceSub, Array.replicate_succ, Array.replicate_zero, List.push_toArray, List.append_toArray, List.nil_append, List.cons_append]
  refine wpIn_wide.2 ?_
  go_upto_region 1 with (fail)
  clear hw1
  go_wp2_with fail
  have bS3 := BS.out.other (show w.heap.size + 1 + 1 ≠ w.heap.size + 1 by omega) (.int .i64 p.proto)
  have bN3 := BN.out.set (.int .i64 p.proto)
  have bB3 := BB.out.set_other (show w.heap.size ≠ w.heap.size + 1 by omega) 0 (.int .i64 p.proto)
  have hB3 := HB0.out.setCell (p := ⟨w.heap.size + 1, 0, none⟩) (Nat.le_succ _) (.int .i64 p.proto)
  have hsz3 : w.heap.size + 3 ≤ (w1.setCell ⟨w.heap.size + 1, 0, none⟩ (.int .i64 p.proto)).heap.size := by rw [← hsz]; simp [World.setCell]
  clear BS BN BB HB0 d35 d36 d37 d40 cN zN hsz
  generalize w1.setCell ⟨w.heap.size + 1, 0, none⟩ (.int .i64 p.proto) = W3 at *
  have hX : Boxed W3.drew (w.heap.size + 1 + 1) 9 (.string ⟨#[]⟩) := bS3
  have k5 : IntKind.i64.wrap p.id = p.id := IntWalk.i64_in _ (by omega)
  have zc := cat_len
  have zs' := fun x : Int => (show (strOfNums [x]).size = 1 from rfl)
  have zd := fun x y : Int => (show (strOfNums [x, y]).size = 2 from rfl)
  have zq := fun x y z t : Int => (show (strOfNums [x, y, z, t]).size = 4 from rfl)
  refine wp_region_noPanic ?_
  refine wp_region_held_drew (S := fun w' => W3.grownBy w' (some (w.heap.size + 1 + 1)) ∧ w'.cell? ⟨w.heap.size + 1, 0, none⟩ = some (.int .i64 p.proto) ∧ w'.rangeAt w.heap.size 0 V ∧ w'.cell? ⟨w.heap.size, 37, none⟩ = some (.int .u32 p.id)) (by kernel_rfl) (rs3 bN3 bB3 hv37 (up_drew (up_refl W3 _))) (fun hHeld => ?_)
  refine wpAnyH_take (i := 0) (oi := { dst := some 10, op := Op.load 3 (Operand.tmp 2), type := 3, pos := "ip6.go:137", after := #[], guard := none }) (v := ?_) rfl (by kernel_rfl) (by kernel_rfl) (by kernel_rfl) (fun _ _ _ h => h) (Or.inl ⟨by rfl, ?_⟩) (by assumption) ?_
  rotate_left
  · (intro ww hSw; (try dsimp only at hSw); go_simp; try with_reducible rfl)
  (try simp only [Act.put, List.setIfInBounds_toArray, List.set_cons_zero, List.set_cons_succ])
  refine wpAnyH_take (i := 4) (oi := { dst := some 14, op := Op.load 27 (Operand.tmp 1), type := 27, pos := "ip6.go:137", after := #[], guard := none }) (v := .agg (V).toArray) rfl (by kernel_rfl) (by kernel_rfl) (by kernel_rfl) (fun _ _ _ h => h) (yieldsIf_load_mid (by rfl) _ _ rfl (w.heap.size) 0 rfl (V) _ (fun ww hSw => hSw.2.2.1) Try.underlying27 rfl HIv.out) (by assumption) ?_
  (try simp only [Act.put, List.setIfInBounds_toArray, List.set_cons_zero, List.set_cons_succ])
  refine wpAnyH_take (i := 8) (oi := { dst := some 18, op := Op.fieldAddr 27 (Operand.tmp 1) 7, type := 0, pos := "ip6.go:137", after := #[], guard := none }) (v := ?_) rfl (by kernel_rfl) (by kernel_rfl) (by kernel_rfl) (fun _ _ _ h => h) (Or.inl ⟨by rfl, ?_⟩) (by assumption) ?_
  rotate_left
  · (intro ww hSw; (try dsimp only at hSw); go_simp; try with_reducible rfl)
  (try simp only [Act.put, List.setIfInBounds_toArray, List.set_cons_zero, List.set_cons_succ])
  refine wpAnyH_take (i := 9) (oi := { dst := some 19, op := Op.load 25 (Operand.tmp 18), type := 25, pos := "ip6.go:137", after := #[{ on := 8, ground := Ground.data }], guard := none }) (v := ?_) rfl (by kernel_rfl) (by kernel_rfl) (by kernel_rfl) (fun _ _ _ h => h) (Or.inl ⟨by rfl, ?_⟩) (by assumption) ?_
  rotate_left
  · (intro ww hSw; (try dsimp only at hSw); go_simp; try with_reducible rfl)
  (try simp only [Act.put, List.setIfInBounds_toArray, List.set_cons_zero, List.set_cons_succ])
  refine wpAnyH_take (i := 10) (oi := { dst := some 20, op := Op.convert 25 3 (Operand.tmp 19), type := 3, pos := "ip6.go:137", after := #[{ on := 9, ground := Ground.data }], guard := none }) (v := ?_) rfl (by kernel_rfl) (by kernel_rfl) (by kernel_rfl) (fun _ _ _ h => h) (Or.inl ⟨by rfl, ?_⟩) (by assumption) ?_
  rotate_left
  · (intro ww hSw; (try dsimp only at hSw); go_simp; try with_reducible rfl)
  (try simp only [Act.put, List.setIfInBounds_toArray, List.set_cons_zero, List.set_cons_succ])
  refine wpAnyH_ready (rs := [1]) (by kernel_rfl) (by simp) ?_
  refine AllReadyH.cons (o := { dst := some 11, op := Op.call { callee := Callee.value (Operand.func 24), args := #[Operand.tmp 10, Operand.const (Value.int IntKind.i64 1)], argTypes := #[3, 3] }, type := 9, pos := "ip6.go:137", after := #[{ on := 0, ground := Ground.data }], guard := none }) rfl (fun K hK => ?_) AllReadyH.nil
  go_simp
  ((with_reducible refine (A1.out _).mono ?_); rintro e w9 ⟨rfl, hb9⟩)
  refine hK.out _ _ (rs3 bN3 bB3 hv37 (up_trans (And.left hHeld) (up_below hb9))) (fun hHeld => ?_)
  clear hK K
  (try simp only [Act.put, List.setIfInBounds_toArray, List.set_cons_zero, List.set_cons_succ])
  have hX := Boxed.below' hX hb9 hX.lt
  refine wpAnyH_ready (rs := [2]) (by kernel_rfl) (by simp) ?_
  refine AllReadyH.cons (o := { dst := some 12, op := Op.call { callee := Callee.value (Operand.func 24), args := #[Operand.const (Value.int IntKind.i64 0), Operand.const (Value.int IntKind.i64 1)], argTypes := #[3, 3] }, type := 9, pos := "ip6.go:137", after := #[{ on := 1, ground := Ground.chain }], guard := none }) rfl (fun K hK => ?_) AllReadyH.nil
  go_simp
  ((with_reducible refine (A0.out _).mono ?_); rintro e w9 ⟨rfl, hb9⟩)
  refine hK.out _ _ (rs3 bN3 bB3 hv37 (up_trans (And.left hHeld) (up_below hb9))) (fun hHeld => ?_)
  clear hK K
  (try simp only [Act.put, List.setIfInBounds_toArray, List.set_cons_zero, List.set_cons_succ])
  have hX := Boxed.below' hX hb9 hX.lt
  refine wpAnyH_take (i := 3) (oi := { dst := some 13, op := Op.binOp BinOp.add 9 (Operand.tmp 11) (Operand.tmp 12) 9, type := 9, pos := "ip6.go:137", after := #[{ on := 1, ground := Ground.data }, { on := 2, ground := Ground.data }], guard := none }) (v := ?_) rfl (by kernel_rfl) (by kernel_rfl) (by kernel_rfl) (fun _ _ _ h => h) (Or.inl ⟨by rfl, ?_⟩) (by assumption) ?_
  rotate_left
  · (intro ww hSw; (try dsimp only at hSw); go_simp; try with_reducible rfl)
  (try simp only [Act.put, List.setIfInBounds_toArray, List.set_cons_zero, List.set_cons_succ])
  refine wpAnyH_ready (rs := [5]) (by kernel_rfl) (by simp) ?_
  refine AllReadyH.cons (o := { dst := some 15, op := Op.call { callee := Callee.value (Operand.func 42), args := #[Operand.tmp 14], argTypes := #[27] }, type := 3, pos := "ip6.go:137", after := #[{ on := 4, ground := Ground.data }, { on := 2, ground := Ground.chain }], guard := none }) rfl (fun K hK => ?_) AllReadyH.nil
  go_simp
  ((with_reducible refine (HW.out _).mono ?_); rintro e w9 ⟨rfl, hb9⟩)
  refine hK.out _ _ (rs3 bN3 bB3 hv37 (up_trans (And.left hHeld) (up_below hb9))) (fun hHeld => ?_)
  clear hK K
  (try simp only [Act.put, List.setIfInBounds_toArray, List.set_cons_zero, List.set_cons_succ])
  have hX := Boxed.below' hX hb9 hX.lt
  refine wpAnyH_ready (rs := [6]) (by kernel_rfl) (by simp) ?_
  refine AllReadyH.cons (o := { dst := some 16, op := Op.call { callee := Callee.value (Operand.func 24), args := #[Operand.tmp 15, Operand.const (Value.int IntKind.i64 2)], argTypes := #[3, 3] }, type := 9, pos := "ip6.go:137", after := #[{ on := 5, ground := Ground.data }, { on := 5, ground := Ground.chain }], guard := none }) rfl (fun K hK => ?_) AllReadyH.nil
  go_simp
  ((with_reducible refine (A2.out _).mono ?_); rintro e w9 ⟨rfl, hb9⟩)
  refine hK.out _ _ (rs3 bN3 bB3 hv37 (up_trans (And.left hHeld) (up_below hb9))) (fun hHeld => ?_)
  clear hK K
  (try simp only [Act.put, List.setIfInBounds_toArray, List.set_cons_zero, List.set_cons_succ])
  have hX := Boxed.below' hX hb9 hX.lt
  refine wpAnyH_take (i := 7) (oi := { dst := some 17, op := Op.binOp BinOp.add 9 (Operand.tmp 13) (Operand.tmp 16) 9, type := 9, pos := "ip6.go:137", after := #[{ on := 3, ground := Ground.data }, { on := 6, ground := Ground.data }], guard := none }) (v := ?_) rfl (by kernel_rfl) (by kernel_rfl) (by kernel_rfl) (fun _ _ _ h => h) (Or.inl ⟨by rfl, ?_⟩) (by assumption) ?_
  rotate_left
  · (intro ww hSw; (try dsimp only at hSw); go_simp; try with_reducible rfl)
  (try simp only [Act.put, List.setIfInBounds_toArray, List.set_cons_zero, List.set_cons_succ])
  refine wpAnyH_ready (rs := [11]) (by kernel_rfl) (by simp) ?_
  refine AllReadyH.cons (o := { dst := some 21, op := Op.call { callee := Callee.value (Operand.func 24), args := #[Operand.tmp 20, Operand.const (Value.int IntKind.i64 4)], argTypes := #[3, 3] }, type := 9, pos := "ip6.go:137", after := #[{ on := 10, ground := Ground.data }, { on := 6, ground := Ground.chain }], guard := none }) rfl (fun K hK => ?_) AllReadyH.nil
  go_simp
  ((with_reducible refine (A4.out _).mono ?_); rintro e w9 ⟨rfl, hb9⟩)
  refine hK.out _ _ (rs3 bN3 bB3 hv37 (up_trans (And.left hHeld) (up_below hb9))) (fun hHeld => ?_)
  clear hK K
  (try simp only [Act.put, List.setIfInBounds_toArray, List.set_cons_zero, List.set_cons_succ])
  have hX := Boxed.below' hX hb9 hX.lt
  refine wpAnyH_take (i := 12) (oi := { dst := some 22, op := Op.binOp BinOp.add 9 (Operand.tmp 17) (Operand.tmp 21) 9, type := 9, pos := "ip6.go:137", after := #[{ on := 7, ground := Ground.data }, { on := 11, ground := Ground.data }], guard := none }) (v := ?_) rfl (by kernel_rfl) (by kernel_rfl) (by kernel_rfl) (fun _ _ _ h => h) (Or.inl ⟨by rfl, ?_⟩) (by assumption) ?_
  rotate_left
  · (intro ww hSw; (try dsimp only at hSw); go_simp; try with_reducible rfl)
  (try simp only [Act.put, List.setIfInBounds_toArray, List.set_cons_zero, List.set_cons_succ])
  refine wpAnyH_ready (rs := [13]) (by kernel_rfl) (by simp) ?_
  refine AllReadyH.cons (o := { dst := none, op := Op.store 9 (Operand.tmp 3) (Operand.tmp 22), type := 0, pos := "ip6.go:137", after := #[{ on := 12, ground := Ground.data }, { on := 11, ground := Ground.chain }, { on := 0, ground := Ground.phase }, { on := 1, ground := Ground.phase }, { on := 2, ground := Ground.phase }, { on := 3, ground := Ground.phase }, { on := 4, ground := Ground.phase }, { on := 5, ground := Ground.phase }, { on := 6, ground := Ground.phase }, { on := 7, ground := Ground.phase }, { on := 8, ground := Ground.phase }, { on := 9, ground := Ground.phase }, { on := 10, ground := Ground.phase }, { on := 11, ground := Ground.phase }, { on := 12, ground := Ground.phase }], guard := none }) rfl (fun K hK => ?_) AllReadyH.nil
  have cX := hX.cell
  have zX := hX.frozen
  go_simp
  refine hK.out _ _ (rs3 bN3 bB3 hv37 (up_set (And.left hHeld) 0 _)) (fun hHeld => ?_)
  clear hK K
  (try simp only [Act.put])
  refine wpAnyH_done (by kernel_rfl) ?_ _
  refine NoPanic.normal ?_
  have hg9 := And.left hHeld
  have hX2 := hX.set (.string (strOfNums [p.proto] ++ strOfNums [0] ++ strOfNums [p.place / 256, p.place % 256] ++ strOfNums [p.id / 16777216, p.id / 65536 % 256, p.id / 256 % 256, p.id % 256]))
  have bN9 := bN3.kept hg9 (fun e => by injection e with e; omega)
  have bB9 := bB3.grown hg9 (fun e => by injection e with e; omega)
  have hB9 := hB3.grown hg9 (by omega) (fun k e => by injection e with e; omega)
  have hsz9 := Nat.le_trans hsz3 hg9.size
  have hfb : p.fragB = strOfNums [p.proto] ++ strOfNums [0] ++ strOfNums [p.place / 256, p.place % 256] ++ strOfNums [p.id / 16777216, p.id / 65536 % 256, p.id / 256 % 256, p.id % 256] := rfl
  clear hHeld hX cX zX A1 A0 A2 A4 HW HIv k5 zc zs' zd zq hg9
  generalize strOfNums [p.proto] = b1 at *
  generalize strOfNums [0] = b0 at *
  generalize strOfNums [p.place / 256, p.place % 256] = b2 at *
  generalize strOfNums [p.id / 16777216, p.id / 65536 % 256, p.id / 256 % 256, p.id % 256] = b4 at *
  rw [← hfb] at hX2 bN9 bB9 hB9 hsz9 ⊢
  clear hfb
  generalize w9.setCell ⟨w.heap.size + 1 + 1, 0, none⟩ (.string p.fragB) = w10 at *
  have cN := bN9.cell
  have zN := bN9.frozen
  have d35 := bB9.at hv35
  go_wp2_with fail
  have BS1 := Lib.hid (hX2.other (show w.heap.size + 1 + 1 ≠ w.heap.size + 1 by omega) (.int .i64 44))
  have BN1 := Lib.hid (bN9.set (.int .i64 44))
  have HB1 := Lib.hid (hB9.setCell (p := ⟨w.heap.size + 1, 0, none⟩) (Nat.le_succ _) (.int .i64 44))
  have hge3 : w.heap.size + 3 ≤ (w10.setCell ⟨w.heap.size + 1, 0, none⟩ (.int .i64 44)).heap.size := by simpa [World.setCell] using hsz9
  clear hX2 bN9 bB9 hB9 hsz9 cN zN d35 hv35 hv37 hsz3 hB3 bS3 bN3 bB3
  generalize w10.setCell ⟨w.heap.size + 1, 0, none⟩ (.int .i64 44) = W1 at *
  refine (callsIn_wide.1 (back_in Fence.wide 1 trivial rfl ao zs.length cap _)).mono ?_
  rintro e w2 ⟨rfl, rfl⟩
  have bS0 := BS1.out.alloc (.cells #[.slice ao zs.length cap] 24)
  have bN0 := BN1.out.alloc (.cells #[.slice ao zs.length cap] 24)
  have bX0 := Boxed.new W1 24 (.slice ao zs.length cap)
  have hsz0 : (W1.alloc (.cells #[.slice ao zs.length cap] 24)).heap.size = W1.heap.size + 1 := by simp
  have hB0 := HB1.out.alloc (Nat.le_trans (Nat.le_add_right _ 3) hge3) (.cells #[.slice ao zs.length cap] 24)
  obtain ⟨Bs, hBs⟩ : ∃ Bs, Bs = W1.heap.size := ⟨_, rfl⟩
  rw [← hBs] at bX0 hge3 hsz0
  rw [← hBs]
  clear hBs
  generalize hW0 : W1.alloc (.cells #[.slice ao zs.length cap] 24) = W0 at *
  clear hW0
  have BS0 := Lib.hid bS0
  have BN0 := Lib.hid bN0
  have BX0 := Lib.hid bX0
  have HB0 := Lib.hid hB0
  clear bS0 bN0 bX0 hB0
  go_wp2_with fail
  refine (wpIn_wide (n := 6)).1 ?_
  have hG : Gs w.heap.size W0 (.slice ao zs.length cap) zs := by rw [← hzn]; exact HG.out.below HB0.out
  have HG0 := Lib.hid hG
  have hsF := hst_facts
  clear HG hG BS1 BN1 HB1
  refine wpIn_rangeFunc_ownH (n := 6) rfl (by omega) (gf := 52) (lb := #[.pointer (some ⟨Bs, 0, none⟩)]) rfl trivial (enters_of Try.func52 (by kernel_rfl) rfl)
    (back_stops Fence.wide (6 - 1) trivial rfl (by omega) (Bs) w.heap.size _ zs (by omega) W0 (by omega) (by omega) BX0.out.cell HG0.out) KpB.trans (kpB_b (by omega) (by omega)) (Below.refl _ _) (fun _ => rfl)
    (fun pre W => (Boxed W (w.heap.size + 1) 3 (.int .i64 (hst pre (44, p.fragB)).1) ∧ Boxed W (w.heap.size + 1 + 1) 9 (.string (hst pre (44, p.fragB)).2) ∧ Boxed W (Bs) 24 (.slice ao zs.length cap)) ∧ Below w.heap.size w W)
    (fun _ _ _ => False)
    (OwnFrom.and (OwnFrom.and (Own.from (boxed_own _ _ _) _) (OwnFrom.and (Own.from (boxed_own _ _ _) _) (Own.from (boxed_own (β := List (Nat × GE)) _ _ (fun _ => _)) _))) (ownFrom_below (Nat.le_refl _) (by omega)))
    (fun _ _ _ _ _ hs _ _ => hs)
    ⟨⟨BN0.out, BS0.out, BX0.out⟩, HB0.out⟩
    (fun x a' W => ∃ Bx, Bs < Bx ∧ Bk W Bx 57 #[.int .i64 x.2.1.1, .string x.2.1.2] ∧ a' = { tmps := #[.agg V.toArray, .pointer (some ⟨w.heap.size, 0, none⟩), .pointer (some ⟨w.heap.size + 1, 0, none⟩), .pointer (some ⟨w.heap.size + 1 + 1, 0, none⟩), undef, .pointer (some ⟨Bx, 0, none⟩), .pointer (some ⟨w.heap.size, 40, none⟩), .int .i64 p.proto, .pointer (some ⟨w.heap.size, 36, none⟩), .bool true, .int .i64 p.proto, .string b1, .string b0, .string (b1 ++ b0), .agg V.toArray, .int .i64 p.place, .string b2, .string (b1 ++ b0 ++ b2), .pointer (some ⟨w.heap.size, 37, none⟩), .int .u32 p.id, .int .i64 p.id, .string b4, .string p.fragB, .pointer (some ⟨w.heap.size, 35, none⟩), .slice ao zs.length cap, .func (.func 52) #[] #[.pointer (some ⟨Bs, 0, none⟩)], .int .i64 (x.1 : Int), .agg #[.int .i64 x.2.1.1, .string x.2.1.2], undef, undef, undef, undef, undef, undef, undef, undef, undef, undef, undef, undef, undef, undef, undef, undef, undef, undef], defers := [] })
    (fun x a' _ X Y row hs hg hr => by
      obtain ⟨Bx, h1, h2, h3⟩ := hs
      refine ⟨Bx, h1, h2.grown hg (fun e => ?_), h3⟩
      obtain ⟨_, ob, ho, hc⟩ := hr Bx e.symm
      rw [show X.heap[Bx]? = _ from h2] at ho
      cases ho
      cases hc)
    ?assign ?body ?done ?stop
  case assign =>
    rintro l pre x W K ⟨⟨bN1, bS1, bX1⟩, hB1⟩ hK
    dsimp only [encG]
    gi_wp2
    exact hK _ _ ((KeepsOthers.alloc _ _).from _) ⟨(Below.refl _ W).alloc hB1.size _, Below.heap_alloc _ _ _ bX1.lt⟩ ⟨⟨bN1.alloc _, bS1.alloc _, bX1.alloc _⟩, hB1.alloc hB1.size _⟩ ⟨W.heap.size, bX1.lt, bk_new _ _ _, rfl⟩
  case body =>
    rintro l pre x a' W hl2 ⟨r, hr⟩ ⟨⟨bN1, bS1, bX1⟩, hB1⟩ ⟨Bx, hBx, bX, rfl⟩ hlt
    have hf := hsF pre (44, p.fragB) ⟨by show (0 : Int) ≤ 44; omega, by show (44 : Int) < 256; omega⟩
    have HM := Lib.hid (hst_snoc pre x (44, p.fragB))
    have hsz2 : (hst pre (44, p.fragB)).2.size ≤ 1099511627776 := by
      have := hf.2
      have h8 : (p.fragB : ByteArray).size ≤ 8 := by rw [fragB_size]; exact Nat.le_refl _
      dsimp only at this
      omega
    obtain ⟨hf0, hf1⟩ := hf.1
    clear hf
    obtain ⟨i, ⟨⟨kd, bd⟩, hx1, hx2, hx3⟩⟩ := x
    dsimp only at bX hx1 hx2 hx3
    generalize hst pre (44, p.fragB) = st at *
    obtain ⟨nx, sx⟩ := st
    dsimp only at bN1 bS1 hf0 hf1 hsz2
    have A1 := Lib.hid (fun W => bigc1 nx W hf0 hf1)
    have A2 := Lib.hid (fun W => bigc1 (((bd.size : Int) - 6) / 8) W (by omega) (by omega))
    gi_wp2
    have hX : Boxed W.drew (w.heap.size + 1 + 1) 9 (.string sx) := bS1
    have k0 : IntKind.i64.wrap ((bd.size : Int) - 6) = (bd.size : Int) - 6 := IntWalk.i64_in _ (by omega)
    have k3 : ((bd.size : Int) - 6).tdiv 8 = ((bd.size : Int) - 6) / 8 := Int.tdiv_eq_ediv_of_nonneg (by omega)
    have k4 : IntKind.i64.wrap (((bd.size : Int) - 6) / 8) = ((bd.size : Int) - 6) / 8 := IntWalk.i64_in _ (by omega)
    have zc := cat_len
    have zs' := fun x : Int => (show (strOfNums [x]).size = 1 from rfl)
    have zo1 : ¬ 9223372036854775807 < 2 + bd.size := by omega
    have zo2 : ¬ 9223372036854775807 < 2 + bd.size + sx.size := by omega
    refine wpIn_region_held (S := fun w' => W.grownBy w' (some (w.heap.size + 1 + 1)) ∧ w'.cell? ⟨w.heap.size + 1, 0, none⟩ = some (.int .i64 nx) ∧ w'.cell? ⟨Bx, 1, none⟩ = some (.string bd)) (by kernel_rfl) (by kernel_rfl) (rs bN1 bX hge3 hBx (up_drew (up_refl W _))) (fun hHeld => ?_)
    refine wpAnyH_take (i := 0) (oi := { dst := some 28, op := Op.load 3 (Operand.tmp 2), type := 3, pos := "ip6.go:141", after := #[], guard := none }) (v := ?_) rfl (by kernel_rfl) (by kernel_rfl) (by kernel_rfl) (fun _ _ _ h => h) (Or.inl ⟨by rfl, ?_⟩) (by assumption) ?_
    rotate_left
    · (intro ww hSw; (try dsimp only at hSw); go_simp; try with_reducible rfl)
    (try simp only [Act.put, List.setIfInBounds_toArray, List.set_cons_zero, List.set_cons_succ])
    refine wpAnyH_take (i := 2) (oi := { dst := some 30, op := Op.fieldAddr 57 (Operand.tmp 5) 1, type := 0, pos := "ip6.go:141", after := #[], guard := none }) (v := ?_) rfl (by kernel_rfl) (by kernel_rfl) (by kernel_rfl) (fun _ _ _ h => h) (Or.inl ⟨by rfl, ?_⟩) (by assumption) ?_
    rotate_left
    · (intro ww hSw; (try dsimp only at hSw); go_simp; try with_reducible rfl)
    (try simp only [Act.put, List.setIfInBounds_toArray, List.set_cons_zero, List.set_cons_succ])
    refine wpAnyH_take (i := 3) (oi := { dst := some 31, op := Op.load 9 (Operand.tmp 30), type := 9, pos := "ip6.go:141", after := #[{ on := 2, ground := Ground.data }], guard := none }) (v := ?_) rfl (by kernel_rfl) (by kernel_rfl) (by kernel_rfl) (fun _ _ _ h => h) (Or.inl ⟨by rfl, ?_⟩) (by assumption) ?_
    rotate_left
    · (intro ww hSw; (try dsimp only at hSw); go_simp; try with_reducible rfl)
    (try simp only [Act.put, List.setIfInBounds_toArray, List.set_cons_zero, List.set_cons_succ])
    refine wpAnyH_take (i := 4) (oi := { dst := some 32, op := Op.call { callee := Callee.builtin Builtin.len, args := #[Operand.tmp 31], argTypes := #[9] }, type := 3, pos := "ip6.go:141", after := #[{ on := 3, ground := Ground.data }], guard := none }) (v := ?_) rfl (by kernel_rfl) (by kernel_rfl) (by kernel_rfl) (fun _ _ _ h => h) (Or.inl ⟨by rfl, ?_⟩) (by assumption) ?_
    rotate_left
    · (intro ww hSw; (try dsimp only at hSw); go_simp; try with_reducible rfl)
    (try simp only [Act.put, List.setIfInBounds_toArray, List.set_cons_zero, List.set_cons_succ])
    refine wpAnyH_take (i := 5) (oi := { dst := some 33, op := Op.binOp BinOp.sub 3 (Operand.tmp 32) (Operand.const (Value.int IntKind.i64 6)) 3, type := 3, pos := "ip6.go:141", after := #[{ on := 4, ground := Ground.data }], guard := none }) (v := ?_) rfl (by kernel_rfl) (by kernel_rfl) (by kernel_rfl) (fun _ _ _ h => h) (Or.inl ⟨by rfl, ?_⟩) (by assumption) ?_
    rotate_left
    · (intro ww hSw; (try dsimp only at hSw); go_simp; try with_reducible rfl)
    (try simp only [Act.put, List.setIfInBounds_toArray, List.set_cons_zero, List.set_cons_succ])
    refine wpAnyH_take (i := 6) (oi := { dst := some 34, op := Op.binOp BinOp.quo 3 (Operand.tmp 33) (Operand.const (Value.int IntKind.i64 8)) 3, type := 3, pos := "ip6.go:141", after := #[{ on := 5, ground := Ground.data }], guard := none }) (v := ?_) rfl (by kernel_rfl) (by kernel_rfl) (by kernel_rfl) (fun _ _ _ h => h) (Or.inl ⟨by rfl, ?_⟩) (by assumption) ?_
    rotate_left
    · (intro ww hSw; (try dsimp only at hSw); go_simp; try with_reducible rfl)
    (try simp only [Act.put, List.setIfInBounds_toArray, List.set_cons_zero, List.set_cons_succ])
    refine wpAnyH_take (i := 9) (oi := { dst := some 37, op := Op.fieldAddr 57 (Operand.tmp 5) 1, type := 0, pos := "ip6.go:141", after := #[], guard := none }) (v := ?_) rfl (by kernel_rfl) (by kernel_rfl) (by kernel_rfl) (fun _ _ _ h => h) (Or.inl ⟨by rfl, ?_⟩) (by assumption) ?_
    rotate_left
    · (intro ww hSw; (try dsimp only at hSw); go_simp; try with_reducible rfl)
    (try simp only [Act.put, List.setIfInBounds_toArray, List.set_cons_zero, List.set_cons_succ])
    refine wpAnyH_take (i := 10) (oi := { dst := some 38, op := Op.load 9 (Operand.tmp 37), type := 9, pos := "ip6.go:141", after := #[{ on := 9, ground := Ground.data }], guard := none }) (v := ?_) rfl (by kernel_rfl) (by kernel_rfl) (by kernel_rfl) (fun _ _ _ h => h) (Or.inl ⟨by rfl, ?_⟩) (by assumption) ?_
    rotate_left
    · (intro ww hSw; (try dsimp only at hSw); go_simp; try with_reducible rfl)
    (try simp only [Act.put, List.setIfInBounds_toArray, List.set_cons_zero, List.set_cons_succ])
    refine wpAnyH_ready (rs := [1, 12]) (by kernel_rfl) (by simp) ?_
    refine AllReadyH.cons (o := { dst := some 29, op := Op.call { callee := Callee.value (Operand.func 24), args := #[Operand.tmp 28, Operand.const (Value.int IntKind.i64 1)], argTypes := #[3, 3] }, type := 9, pos := "ip6.go:141", after := #[{ on := 0, ground := Ground.data }], guard := none }) rfl (fun K hK => ?_) (AllReadyH.cons (o := { dst := some 40, op := Op.load 9 (Operand.tmp 3), type := 9, pos := "ip6.go:141", after := #[], guard := none }) rfl (fun K hK => ?_) AllReadyH.nil)
    · go_simp
      ((with_reducible refine (A1.out _).mono ?_); rintro e w9 ⟨rfl, hb9⟩)
      refine hK.out _ _ (rs bN1 bX hge3 hBx (up_trans (And.left hHeld) (up_below hb9))) (fun hHeld => ?_)
      clear hK K
      (try simp only [Act.put, List.setIfInBounds_toArray, List.set_cons_zero, List.set_cons_succ])
      have hX := Boxed.below' hX hb9 hX.lt
      refine wpAnyH_ready (rs := [7, 12]) (by kernel_rfl) (by simp) ?_
      refine AllReadyH.cons (o := { dst := some 35, op := Op.call { callee := Callee.value (Operand.func 24), args := #[Operand.tmp 34, Operand.const (Value.int IntKind.i64 1)], argTypes := #[3, 3] }, type := 9, pos := "ip6.go:141", after := #[{ on := 6, ground := Ground.data }, { on := 1, ground := Ground.chain }], guard := none }) rfl (fun K hK => ?_) (AllReadyH.cons (o := { dst := some 40, op := Op.load 9 (Operand.tmp 3), type := 9, pos := "ip6.go:141", after := #[], guard := none }) rfl (fun K hK => ?_) AllReadyH.nil)
      · go_simp
        ((with_reducible refine (A2.out _).mono ?_); rintro e w9 ⟨rfl, hb9⟩)
        refine hK.out _ _ (rs bN1 bX hge3 hBx (up_trans (And.left hHeld) (up_below hb9))) (fun hHeld => ?_)
        clear hK K
        (try simp only [Act.put, List.setIfInBounds_toArray, List.set_cons_zero, List.set_cons_succ])
        have hX := Boxed.below' hX hb9 hX.lt
        refine wpAnyH_take (i := 8) (oi := { dst := some 36, op := Op.binOp BinOp.add 9 (Operand.tmp 29) (Operand.tmp 35) 9, type := 9, pos := "ip6.go:141", after := #[{ on := 1, ground := Ground.data }, { on := 7, ground := Ground.data }], guard := none }) (v := ?_) rfl (by kernel_rfl) (by kernel_rfl) (by kernel_rfl) (fun _ _ _ h => h) (Or.inl ⟨by rfl, ?_⟩) (by assumption) ?_
        rotate_left
        · (intro ww hSw; (try dsimp only at hSw); go_simp; try with_reducible rfl)
        (try simp only [Act.put, List.setIfInBounds_toArray, List.set_cons_zero, List.set_cons_succ])
        refine wpAnyH_take (i := 11) (oi := { dst := some 39, op := Op.binOp BinOp.add 9 (Operand.tmp 36) (Operand.tmp 38) 9, type := 9, pos := "ip6.go:141", after := #[{ on := 8, ground := Ground.data }, { on := 10, ground := Ground.data }], guard := none }) (v := ?_) rfl (by kernel_rfl) (by kernel_rfl) (by kernel_rfl) (fun _ _ _ h => h) (Or.inl ⟨by rfl, ?_⟩) (by assumption) ?_
        rotate_left
        · (intro ww hSw; (try dsimp only at hSw); go_simp; try with_reducible rfl)
        (try simp only [Act.put, List.setIfInBounds_toArray, List.set_cons_zero, List.set_cons_succ])
        refine wpAnyH_ready (rs := [12]) (by kernel_rfl) (by simp) ?_
        refine AllReadyH.cons (o := { dst := some 40, op := Op.load 9 (Operand.tmp 3), type := 9, pos := "ip6.go:141", after := #[], guard := none }) rfl (fun K hK => ?_) AllReadyH.nil
        have cX := hX.cell
        go_simp
        refine hK.out _ _ (hHeld) (fun hHeld => ?_)
        clear hK K
        (try simp only [Act.put, List.setIfInBounds_toArray, List.set_cons_zero, List.set_cons_succ])
        refine wpAnyH_take (i := 13) (oi := { dst := some 41, op := Op.binOp BinOp.add 9 (Operand.tmp 39) (Operand.tmp 40) 9, type := 9, pos := "ip6.go:141", after := #[{ on := 11, ground := Ground.data }, { on := 12, ground := Ground.data }], guard := none }) (v := ?_) rfl (by kernel_rfl) (by kernel_rfl) (by kernel_rfl) (fun _ _ _ h => h) (Or.inl ⟨by rfl, ?_⟩) (by assumption) ?_
        rotate_left
        · (intro ww hSw; (try dsimp only at hSw); go_simp; try with_reducible rfl)
        (try simp only [Act.put, List.setIfInBounds_toArray, List.set_cons_zero, List.set_cons_succ])
        refine wpAnyH_ready (rs := [14]) (by kernel_rfl) (by simp) ?_
        refine AllReadyH.cons (o := { dst := none, op := Op.store 9 (Operand.tmp 3) (Operand.tmp 41), type := 0, pos := "ip6.go:141", after := #[{ on := 13, ground := Ground.data }, { on := 7, ground := Ground.chain }, { on := 0, ground := Ground.phase }, { on := 1, ground := Ground.phase }, { on := 2, ground := Ground.phase }, { on := 3, ground := Ground.phase }, { on := 4, ground := Ground.phase }, { on := 5, ground := Ground.phase }, { on := 6, ground := Ground.phase }, { on := 7, ground := Ground.phase }, { on := 8, ground := Ground.phase }, { on := 9, ground := Ground.phase }, { on := 10, ground := Ground.phase }, { on := 11, ground := Ground.phase }, { on := 12, ground := Ground.phase }, { on := 13, ground := Ground.phase }], guard := none }) rfl (fun K hK => ?_) AllReadyH.nil
        have cX := hX.cell
        have zX := hX.frozen
        go_simp
        refine hK.out _ _ (rs bN1 bX hge3 hBx (up_set (And.left hHeld) 0 _)) (fun hHeld => ?_)
        clear hK K
        (try simp only [Act.put])
        refine wpAnyH_done (by kernel_rfl) ?_ _
        refine QN.normal ?_
        have hg9 := And.left hHeld
        have hX2 := hX.set (.string (strOfNums [nx] ++ strOfNums [((bd.size : Int) - 6) / 8] ++ bd ++ sx))
        have bN2 := bN1.kept hg9 (fun e => by injection e with e; omega)
        have bX2 := bX.grown hg9 (fun e => by injection e with e; omega)
        have bB2 := bX1.kept hg9 (fun e => by injection e with e; omega)
        generalize hYY : strOfNums [nx] ++ strOfNums [((bd.size : Int) - 6) / 8] ++ bd ++ sx = Y at *
        generalize w9.setCell ⟨w.heap.size + 1 + 1, 0, none⟩ (.string Y) = w10 at *
        clear hHeld hX cX zX A1 A2 k0 k3 k4 zc zs' zo1 zo2
        have cN := bN2.cell
        have zN := bN2.frozen
        have cX := bX2.c 0 _ rfl
        gi_wp2
        have hM := HM.out
        unfold hstep at hM
        dsimp only at hM
        rw [hYY] at hM
        exact ⟨(KeepsFrom.of_grownBy (row := some (w.heap.size + 1 + 1)) hg9 (fun j e => by injection e with e; omega)).trans ((KeepsOthers.setCell _ _ _).from _), ⟨((Below.refl _ _).grown hg9 hB1.size (fun k e => by injection e with e; omega)).setCell (p := ⟨w.heap.size + 1, 0, none⟩) (Nat.le_succ _) _, (Below.heap_setCell _ _ _ _ (by show Bs ≠ w.heap.size + 1; omega)).trans (hg9.block _ bX1.lt (fun e => by injection e with e; omega))⟩, ⟨by rw [hM]; exact bN2.set _, by rw [hM]; exact hX2.other (by omega) _, bB2.other (by omega) _⟩, (hB1.grown hg9 hB1.size (fun k e => by injection e with e; omega)).setCell (p := ⟨w.heap.size + 1, 0, none⟩) (Nat.le_succ _) _⟩
      · have cX := hX.cell
        go_simp
        refine hK.out _ _ (hHeld) (fun hHeld => ?_)
        clear hK K
        (try simp only [Act.put, List.setIfInBounds_toArray, List.set_cons_zero, List.set_cons_succ])
        refine wpAnyH_ready (rs := [7]) (by kernel_rfl) (by simp) ?_
        refine AllReadyH.cons (o := { dst := some 35, op := Op.call { callee := Callee.value (Operand.func 24), args := #[Operand.tmp 34, Operand.const (Value.int IntKind.i64 1)], argTypes := #[3, 3] }, type := 9, pos := "ip6.go:141", after := #[{ on := 6, ground := Ground.data }, { on := 1, ground := Ground.chain }], guard := none }) rfl (fun K hK => ?_) AllReadyH.nil
        go_simp
        ((with_reducible refine (A2.out _).mono ?_); rintro e w9 ⟨rfl, hb9⟩)
        refine hK.out _ _ (rs bN1 bX hge3 hBx (up_trans (And.left hHeld) (up_below hb9))) (fun hHeld => ?_)
        clear hK K
        (try simp only [Act.put, List.setIfInBounds_toArray, List.set_cons_zero, List.set_cons_succ])
        have hX := Boxed.below' hX hb9 hX.lt
        refine wpAnyH_take (i := 8) (oi := { dst := some 36, op := Op.binOp BinOp.add 9 (Operand.tmp 29) (Operand.tmp 35) 9, type := 9, pos := "ip6.go:141", after := #[{ on := 1, ground := Ground.data }, { on := 7, ground := Ground.data }], guard := none }) (v := ?_) rfl (by kernel_rfl) (by kernel_rfl) (by kernel_rfl) (fun _ _ _ h => h) (Or.inl ⟨by rfl, ?_⟩) (by assumption) ?_
        rotate_left
        · (intro ww hSw; (try dsimp only at hSw); go_simp; try with_reducible rfl)
        (try simp only [Act.put, List.setIfInBounds_toArray, List.set_cons_zero, List.set_cons_succ])
        refine wpAnyH_take (i := 11) (oi := { dst := some 39, op := Op.binOp BinOp.add 9 (Operand.tmp 36) (Operand.tmp 38) 9, type := 9, pos := "ip6.go:141", after := #[{ on := 8, ground := Ground.data }, { on := 10, ground := Ground.data }], guard := none }) (v := ?_) rfl (by kernel_rfl) (by kernel_rfl) (by kernel_rfl) (fun _ _ _ h => h) (Or.inl ⟨by rfl, ?_⟩) (by assumption) ?_
        rotate_left
        · (intro ww hSw; (try dsimp only at hSw); go_simp; try with_reducible rfl)
        (try simp only [Act.put, List.setIfInBounds_toArray, List.set_cons_zero, List.set_cons_succ])
        refine wpAnyH_take (i := 13) (oi := { dst := some 41, op := Op.binOp BinOp.add 9 (Operand.tmp 39) (Operand.tmp 40) 9, type := 9, pos := "ip6.go:141", after := #[{ on := 11, ground := Ground.data }, { on := 12, ground := Ground.data }], guard := none }) (v := ?_) rfl (by kernel_rfl) (by kernel_rfl) (by kernel_rfl) (fun _ _ _ h => h) (Or.inl ⟨by rfl, ?_⟩) (by assumption) ?_
        rotate_left
        · (intro ww hSw; (try dsimp only at hSw); go_simp; try with_reducible rfl)
        (try simp only [Act.put, List.setIfInBounds_toArray, List.set_cons_zero, List.set_cons_succ])
        refine wpAnyH_ready (rs := [14]) (by kernel_rfl) (by simp) ?_
        refine AllReadyH.cons (o := { dst := none, op := Op.store 9 (Operand.tmp 3) (Operand.tmp 41), type := 0, pos := "ip6.go:141", after := #[{ on := 13, ground := Ground.data }, { on := 7, ground := Ground.chain }, { on := 0, ground := Ground.phase }, { on := 1, ground := Ground.phase }, { on := 2, ground := Ground.phase }, { on := 3, ground := Ground.phase }, { on := 4, ground := Ground.phase }, { on := 5, ground := Ground.phase }, { on := 6, ground := Ground.phase }, { on := 7, ground := Ground.phase }, { on := 8, ground := Ground.phase }, { on := 9, ground := Ground.phase }, { on := 10, ground := Ground.phase }, { on := 11, ground := Ground.phase }, { on := 12, ground := Ground.phase }, { on := 13, ground := Ground.phase }], guard := none }) rfl (fun K hK => ?_) AllReadyH.nil
        have cX := hX.cell
        have zX := hX.frozen
        go_simp
        refine hK.out _ _ (rs bN1 bX hge3 hBx (up_set (And.left hHeld) 0 _)) (fun hHeld => ?_)
        clear hK K
        (try simp only [Act.put])
        refine wpAnyH_done (by kernel_rfl) ?_ _
        refine QN.normal ?_
        have hg9 := And.left hHeld
        have hX2 := hX.set (.string (strOfNums [nx] ++ strOfNums [((bd.size : Int) - 6) / 8] ++ bd ++ sx))
        have bN2 := bN1.kept hg9 (fun e => by injection e with e; omega)
        have bX2 := bX.grown hg9 (fun e => by injection e with e; omega)
        have bB2 := bX1.kept hg9 (fun e => by injection e with e; omega)
        generalize hYY : strOfNums [nx] ++ strOfNums [((bd.size : Int) - 6) / 8] ++ bd ++ sx = Y at *
        generalize w9.setCell ⟨w.heap.size + 1 + 1, 0, none⟩ (.string Y) = w10 at *
        clear hHeld hX cX zX A1 A2 k0 k3 k4 zc zs' zo1 zo2
        have cN := bN2.cell
        have zN := bN2.frozen
        have cX := bX2.c 0 _ rfl
        gi_wp2
        have hM := HM.out
        unfold hstep at hM
        dsimp only at hM
        rw [hYY] at hM
        exact ⟨(KeepsFrom.of_grownBy (row := some (w.heap.size + 1 + 1)) hg9 (fun j e => by injection e with e; omega)).trans ((KeepsOthers.setCell _ _ _).from _), ⟨((Below.refl _ _).grown hg9 hB1.size (fun k e => by injection e with e; omega)).setCell (p := ⟨w.heap.size + 1, 0, none⟩) (Nat.le_succ _) _, (Below.heap_setCell _ _ _ _ (by show Bs ≠ w.heap.size + 1; omega)).trans (hg9.block _ bX1.lt (fun e => by injection e with e; omega))⟩, ⟨by rw [hM]; exact bN2.set _, by rw [hM]; exact hX2.other (by omega) _, bB2.other (by omega) _⟩, (hB1.grown hg9 hB1.size (fun k e => by injection e with e; omega)).setCell (p := ⟨w.heap.size + 1, 0, none⟩) (Nat.le_succ _) _⟩
    · have cX := hX.cell
      go_simp
      refine hK.out _ _ (hHeld) (fun hHeld => ?_)
      clear hK K
      (try simp only [Act.put, List.setIfInBounds_toArray, List.set_cons_zero, List.set_cons_succ])
      refine wpAnyH_ready (rs := [1]) (by kernel_rfl) (by simp) ?_
      refine AllReadyH.cons (o := { dst := some 29, op := Op.call { callee := Callee.value (Operand.func 24), args := #[Operand.tmp 28, Operand.const (Value.int IntKind.i64 1)], argTypes := #[3, 3] }, type := 9, pos := "ip6.go:141", after := #[{ on := 0, ground := Ground.data }], guard := none }) rfl (fun K hK => ?_) AllReadyH.nil
      go_simp
      ((with_reducible refine (A1.out _).mono ?_); rintro e w9 ⟨rfl, hb9⟩)
      refine hK.out _ _ (rs bN1 bX hge3 hBx (up_trans (And.left hHeld) (up_below hb9))) (fun hHeld => ?_)
      clear hK K
      (try simp only [Act.put, List.setIfInBounds_toArray, List.set_cons_zero, List.set_cons_succ])
      have hX := Boxed.below' hX hb9 hX.lt
      refine wpAnyH_ready (rs := [7]) (by kernel_rfl) (by simp) ?_
      refine AllReadyH.cons (o := { dst := some 35, op := Op.call { callee := Callee.value (Operand.func 24), args := #[Operand.tmp 34, Operand.const (Value.int IntKind.i64 1)], argTypes := #[3, 3] }, type := 9, pos := "ip6.go:141", after := #[{ on := 6, ground := Ground.data }, { on := 1, ground := Ground.chain }], guard := none }) rfl (fun K hK => ?_) AllReadyH.nil
      go_simp
      ((with_reducible refine (A2.out _).mono ?_); rintro e w9 ⟨rfl, hb9⟩)
      refine hK.out _ _ (rs bN1 bX hge3 hBx (up_trans (And.left hHeld) (up_below hb9))) (fun hHeld => ?_)
      clear hK K
      (try simp only [Act.put, List.setIfInBounds_toArray, List.set_cons_zero, List.set_cons_succ])
      have hX := Boxed.below' hX hb9 hX.lt
      refine wpAnyH_take (i := 8) (oi := { dst := some 36, op := Op.binOp BinOp.add 9 (Operand.tmp 29) (Operand.tmp 35) 9, type := 9, pos := "ip6.go:141", after := #[{ on := 1, ground := Ground.data }, { on := 7, ground := Ground.data }], guard := none }) (v := ?_) rfl (by kernel_rfl) (by kernel_rfl) (by kernel_rfl) (fun _ _ _ h => h) (Or.inl ⟨by rfl, ?_⟩) (by assumption) ?_
      rotate_left
      · (intro ww hSw; (try dsimp only at hSw); go_simp; try with_reducible rfl)
      (try simp only [Act.put, List.setIfInBounds_toArray, List.set_cons_zero, List.set_cons_succ])
      refine wpAnyH_take (i := 11) (oi := { dst := some 39, op := Op.binOp BinOp.add 9 (Operand.tmp 36) (Operand.tmp 38) 9, type := 9, pos := "ip6.go:141", after := #[{ on := 8, ground := Ground.data }, { on := 10, ground := Ground.data }], guard := none }) (v := ?_) rfl (by kernel_rfl) (by kernel_rfl) (by kernel_rfl) (fun _ _ _ h => h) (Or.inl ⟨by rfl, ?_⟩) (by assumption) ?_
      rotate_left
      · (intro ww hSw; (try dsimp only at hSw); go_simp; try with_reducible rfl)
      (try simp only [Act.put, List.setIfInBounds_toArray, List.set_cons_zero, List.set_cons_succ])
      refine wpAnyH_take (i := 13) (oi := { dst := some 41, op := Op.binOp BinOp.add 9 (Operand.tmp 39) (Operand.tmp 40) 9, type := 9, pos := "ip6.go:141", after := #[{ on := 11, ground := Ground.data }, { on := 12, ground := Ground.data }], guard := none }) (v := ?_) rfl (by kernel_rfl) (by kernel_rfl) (by kernel_rfl) (fun _ _ _ h => h) (Or.inl ⟨by rfl, ?_⟩) (by assumption) ?_
      rotate_left
      · (intro ww hSw; (try dsimp only at hSw); go_simp; try with_reducible rfl)
      (try simp only [Act.put, List.setIfInBounds_toArray, List.set_cons_zero, List.set_cons_succ])
      refine wpAnyH_ready (rs := [14]) (by kernel_rfl) (by simp) ?_
      refine AllReadyH.cons (o := { dst := none, op := Op.store 9 (Operand.tmp 3) (Operand.tmp 41), type := 0, pos := "ip6.go:141", after := #[{ on := 13, ground := Ground.data }, { on := 7, ground := Ground.chain }, { on := 0, ground := Ground.phase }, { on := 1, ground := Ground.phase }, { on := 2, ground := Ground.phase }, { on := 3, ground := Ground.phase }, { on := 4, ground := Ground.phase }, { on := 5, ground := Ground.phase }, { on := 6, ground := Ground.phase }, { on := 7, ground := Ground.phase }, { on := 8, ground := Ground.phase }, { on := 9, ground := Ground.phase }, { on := 10, ground := Ground.phase }, { on := 11, ground := Ground.phase }, { on := 12, ground := Ground.phase }, { on := 13, ground := Ground.phase }], guard := none }) rfl (fun K hK => ?_) AllReadyH.nil
      have cX := hX.cell
      have zX := hX.frozen
      go_simp
      refine hK.out _ _ (rs bN1 bX hge3 hBx (up_set (And.left hHeld) 0 _)) (fun hHeld => ?_)
      clear hK K
      (try simp only [Act.put])
      refine wpAnyH_done (by kernel_rfl) ?_ _
      refine QN.normal ?_
      have hg9 := And.left hHeld
      have hX2 := hX.set (.string (strOfNums [nx] ++ strOfNums [((bd.size : Int) - 6) / 8] ++ bd ++ sx))
      have bN2 := bN1.kept hg9 (fun e => by injection e with e; omega)
      have bX2 := bX.grown hg9 (fun e => by injection e with e; omega)
      have bB2 := bX1.kept hg9 (fun e => by injection e with e; omega)
      generalize hYY : strOfNums [nx] ++ strOfNums [((bd.size : Int) - 6) / 8] ++ bd ++ sx = Y at *
      generalize w9.setCell ⟨w.heap.size + 1 + 1, 0, none⟩ (.string Y) = w10 at *
      clear hHeld hX cX zX A1 A2 k0 k3 k4 zc zs' zo1 zo2
      have cN := bN2.cell
      have zN := bN2.frozen
      have cX := bX2.c 0 _ rfl
      gi_wp2
      have hM := HM.out
      unfold hstep at hM
      dsimp only at hM
      rw [hYY] at hM
      exact ⟨(KeepsFrom.of_grownBy (row := some (w.heap.size + 1 + 1)) hg9 (fun j e => by injection e with e; omega)).trans ((KeepsOthers.setCell _ _ _).from _), ⟨((Below.refl _ _).grown hg9 hB1.size (fun k e => by injection e with e; omega)).setCell (p := ⟨w.heap.size + 1, 0, none⟩) (Nat.le_succ _) _, (Below.heap_setCell _ _ _ _ (by show Bs ≠ w.heap.size + 1; omega)).trans (hg9.block _ bX1.lt (fun e => by injection e with e; omega))⟩, ⟨by rw [hM]; exact bN2.set _, by rw [hM]; exact hX2.other (by omega) _, bB2.other (by omega) _⟩, (hB1.grown hg9 hB1.size (fun k e => by injection e with e; omega)).setCell (p := ⟨w.heap.size + 1, 0, none⟩) (Nat.le_succ _) _⟩
  case done =>
    rintro D ys W hD rfl ⟨⟨bN1, bS1, bX1⟩, hB1⟩ hK
    have cN := bN1.cell
    have cS := bS1.cell
    have zN := bN1.frozen
    have zS := bS1.frozen
    have HA := Lib.hid (hst_all zs (44, p.fragB))
    go_wp2_with fail
    generalize hst (uptoE (dn zs) zs.length) (44, p.fragB) = st at *
    go_region
    go_wp2_with fail
    have hne1 : D ≠ w.heap.size + 1 := by omega
    have hne2 : D ≠ w.heap.size + 1 + 1 := by omega
    have hK' : ((W.setCell ⟨w.heap.size + 1, 0, none⟩ (.int .i64 st.1)).setCell ⟨w.heap.size + 1 + 1, 0, none⟩ (.string st.2)).drew.heap[D]? = some (.deferred (some [])) := (Below.heap_setCell _ _ _ _ hne2).trans ((Below.heap_setCell _ _ _ _ hne1).trans hK)
    have bN5 : Boxed ((W.setCell ⟨w.heap.size + 1, 0, none⟩ (.int .i64 st.1)).setCell ⟨w.heap.size + 1 + 1, 0, none⟩ (.string st.2)).drew (w.heap.size + 1) 3 (.int .i64 st.1) := (bN1.set _).other (by omega) _
    have bS5 : Boxed ((W.setCell ⟨w.heap.size + 1, 0, none⟩ (.int .i64 st.1)).setCell ⟨w.heap.size + 1 + 1, 0, none⟩ (.string st.2)).drew (w.heap.size + 1 + 1) 9 (.string st.2) := (bS1.other (by omega) _).set _
    have hB5 := ((hB1.setCell (p := ⟨w.heap.size + 1, 0, none⟩) (Nat.le_succ _) (.int .i64 st.1)).setCell (p := ⟨w.heap.size + 1 + 1, 0, none⟩) (by show w.heap.size ≤ w.heap.size + 1 + 1; omega) (.string st.2)).drew
    generalize ((W.setCell ⟨w.heap.size + 1, 0, none⟩ (.int .i64 st.1)).setCell ⟨w.heap.size + 1 + 1, 0, none⟩ (.string st.2)).drew = w5 at *
    refine ⟨by simp, .inl ⟨_, _, rfl, run_takeDeferred hK', ?_⟩⟩
    have cN5 := cell_kept bN5.cell (grownBy_putObj' _ D (.deferred none)) (fun r e => by cases e; exact ⟨_, hK', rfl⟩)
    have cS5 := cell_kept bS5.cell (grownBy_putObj' _ D (.deferred none)) (fun r e => by cases e; exact ⟨_, hK', rfl⟩)
    refine ⟨.tuple #[.int .i64 st.1, .string st.2], by simp [results, Try.results23, go_sem, cN5, cS5], ?_, hB5.trans (belowK_b (w := w) (Nat.le_refl _) _ D _ _ (by omega) hK' rfl rfl)⟩
    have hA := HA.out
    rw [HZ.out] at hA
    rw [HH.out, hA]
  case stop =>
    rintro D c pre W _ _ h _
    exact h.elim
end Go.Proofs.Ytdljjcnihajchaa
