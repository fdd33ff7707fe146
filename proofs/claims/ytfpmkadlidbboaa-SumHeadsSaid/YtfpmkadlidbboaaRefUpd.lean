/-
  Proved here: what the document's Update answers.
  Conditions: texts of at most 70000 bytes; the sum fits an int.
-/
import Derived.Test.YtfpmkadlidbboaaRefOf
import Derived.Laws.AppendOwnNone
namespace Go.Proofs.Ytfpmkadlidbboaa
open Go.RowKit

/-- What is left of the words of old. -/
def gone (l : List Nat) : List Nat := l.map (65535 - ·)
theorem gone_take (l : List Nat) (k : Nat) (hk : k < l.length) : gone (l.take (k + 1)) = gone (l.take k) ++ [65535 - l[k]] := by
  unfold gone
  rw [List.take_succ_eq_append_getElem hk, List.map_append]
  rfl
theorem gone_sum : ∀ l : List Nat, (∀ x ∈ l, x ≤ 65535) → (gone l).sum = 65535 * l.length - l.sum
  | [], _ => rfl
  | a :: r, h => by
    have h1 := gone_sum r (fun x hx => h x (List.mem_cons_of_mem _ hx))
    have h2 := h a (List.mem_cons_self ..)
    have h3 := sum_le r (fun x hx => h x (List.mem_cons_of_mem _ hx))
    show (65535 - a) + (gone r).sum = _
    rw [h1]
    simp only [List.length_cons, List.sum_cons]
    omega
/-- The document's list of numbers. -/
def updL (n : Int) (old new : List UInt8) : List Nat := (65535 - n % 65536).toNat :: gone (wds old) ++ wds new
theorem updL_sum (n : Int) (old new : List UInt8) : (updL n old new).sum = (65535 - n % 65536).toNat + (65535 * ((old.length + 1) / 2) - acc true old) + acc true new := by
  unfold updL
  rw [List.sum_append, List.sum_cons, gone_sum _ (wds_le old), wds_acc, wds_acc, wds_len]
theorem updL_upd (n : Int) (old new : List UInt8) : 65535 - fold (updL n old new).sum = upd n old new := by rw [updL_sum]; rfl
theorem updL_le (n : Int) (old new : List UInt8) : ∀ x ∈ updL n old new, x ≤ 65535 := by
  intro x hx
  unfold updL gone at hx
  simp only [List.cons_append, List.mem_cons, List.mem_append, List.mem_map] at hx
  rcases hx with rfl | ⟨y, _, rfl⟩ | hx
  · omega
  · omega
  · exact wds_le new x hx

/-- The program's row l while the words of old are taken away: v holds these numbers, in another block than those. -/
def Rw (w0 wr : World) (v : Value) (l : List Nat) (ao : Option Addr) : Prop :=
  wr.ownsRow w0.heap.size 3 1 v l.length (ints l) ∧ Below w0.heap.size w0 wr ∧ ∀ g, v.ownBlock = some g → ∀ b o, ao = some ⟨b, o, none⟩ → g ≠ b

theorem own_below {w w' : World} {base B : Nat} {e : TypeId} {size : Nat} {v : Value} {n : Nat} {xs : List Value} (h : w.ownsRow base e size v n xs) (hb : Below B w w') (hB : w.heap.size ≤ B) : w'.ownsRow base e size v n xs := by
  refine ⟨h.1, ?_⟩
  rcases h.2 with h0 | ⟨g, cap, cur, hv, hg, hh, hrest⟩
  · exact .inl h0
  · refine .inr ⟨g, cap, cur, hv, hg, ?_, hrest⟩
    have hlt := (h.lt g (by rw [hv]; rfl)).2
    exact (hb.block g (by omega)).trans hh
theorem Nms.below {w w' : World} {ao : Option Addr} {l : List Nat} (h : Nms w ao l) (hb : Below w.heap.size w w') : Nms w' ao l := by
  intro i hi
  obtain ⟨b, o, e, hc⟩ := h i hi
  exact ⟨b, o, e, (hb.cell (World.block_lt_of_cell? w _ hc)).trans hc⟩
theorem Nms.grown {w w' : World} {ao : Option Addr} {l : List Nat} {row : Option Nat} (h : Nms w ao l) (hg : w.grownBy w' row) (hne : ∀ g, row = some g → ∀ b o, ao = some ⟨b, o, none⟩ → g ≠ b) : Nms w' ao l := by
  intro i hi
  obtain ⟨b, o, e, hc⟩ := h i hi
  refine ⟨b, o, e, ?_⟩
  rw [World.cell?_of_block (hg.block b (World.block_lt_of_cell? w _ hc) (fun he => hne b he.symm b o e rfl))]
  exact hc
theorem Nms.alloc {w : World} {ao : Option Addr} {l : List Nat} (h : Nms w ao l) (o : Obj) : Nms (w.alloc o) ao l := h.below ((Below.refl _ _).alloc (Nat.le_refl _) _)

theorem tmod_cases (n k : Int) : (0 ≤ n ∧ n.tmod k = n % k) ∨ (n < 0 ∧ n.tmod k = -((-n) % k)) := by
  rcases Int.lt_or_le n 0 with h | h
  · refine .inr ⟨h, ?_⟩
    have e : n.tmod k = -((-n).tmod k) := by rw [Int.neg_tmod, Int.neg_neg]
    rw [e, Int.tmod_eq_emod_of_nonneg (by omega)]
  · exact .inl ⟨h, Int.tmod_eq_emod_of_nonneg h⟩

/-- The row at its beginning. -/
theorem rw_first {w w1 : World} {x : Nat} {ao : Option Addr} {la : List Nat} {va : Value} (hv : ∀ b o, ao = some ⟨b, o, none⟩ → va.ownBlock = some b)
    (hown : w1.ownsRow (w.alloc (.cells #[.int .i64 (x : Nat)] 3)).heap.size 3 1 va la.length (ints la)) (hb : Below (w.alloc (.cells #[.int .i64 (x : Nat)] 3)).heap.size (w.alloc (.cells #[.int .i64 (x : Nat)] 3)) w1) :
    Rw w w1 (.slice (some ⟨w.heap.size, 0, none⟩) 1 1) [x] ao := by
  have hz : (w.alloc (.cells #[.int .i64 (x : Nat)] 3)).heap.size = w.heap.size + 1 := by simp
  refine ⟨⟨rfl, .inr ⟨w.heap.size, 1, #[.int .i64 (x : Nat)], rfl, Nat.le_refl _, ?_, Nat.le_refl _, by unfold maxLen; omega, rfl, rfl⟩⟩, ?_, ?_⟩
  · rw [hb.block w.heap.size (by omega)]
    exact heap_alloc_new w _
  · exact ((Below.refl w.heap.size w).alloc (Nat.le_refl _) _).trans (hb.mono (by omega))
  · intro g hg b o he
    have := (hown.lt b (hv b o he)).1
    have hg' : w.heap.size = g := by simpa [Value.ownBlock] using hg
    omega
theorem own_of_nms {w : World} {base : Nat} {v : Value} {l : List Nat} (h : w.ownsRow base 3 1 v l.length (ints l)) :
    ∃ ao cap, v = .slice ao l.length cap ∧ Nms w ao l ∧ ∀ b o, ao = some ⟨b, o, none⟩ → v.ownBlock = some b := by
  obtain ⟨ao, cap, rfl, hn⟩ := nms_own h
  exact ⟨ao, cap, rfl, hn, fun b o he => by rw [he]; rfl⟩

theorem ints_one (l : List Nat) : ∀ u ∈ ints l, u.oneCell' = true := by
  intro u hu
  obtain ⟨x, _, rfl⟩ := List.mem_map.1 hu
  rfl
theorem rtotal_own {w : World} {base : Nat} {v : Value} {l : List Nat} (h : w.ownsRow base 3 1 v l.length (ints l)) (hm : l.length ≤ 1099511627776) (hx : ∀ x ∈ l, x ≤ 65535) :
    Calls Try.prog 27 #[v] w fun e w' => e = .returned (.int .i64 (fold l.sum : Nat)) ∧ w = w' := by
  obtain ⟨ao, cap, rfl, hn⟩ := nms_own h
  exact rtotal_any _ _ _ _ _ rfl hm hn hx
theorem len_gone {x : Nat} {la : List Nat} {k : Nat} (hk : k ≤ la.length) : (x :: gone (la.take k)).length = k + 1 := by
  simp only [gone, List.length_cons, List.length_map, List.length_take]; omega
theorem rw_next {w wr w2 : World} {v : Value} {x : Nat} {la : List Nat} {k b o gg cap : Nat} {ob : Obj} (hk : k ≤ la.length) (hlt : k < la.length) (h6 : la[k] ≤ 65535) (hR : Rw w wr v (x :: gone (la.take k)) (some ⟨b, o, none⟩)) (hN : Nms wr (some ⟨b, o, none⟩) la)
    (hown : w2.ownsRow w.heap.size 3 1 (.slice (some ⟨gg, 0, none⟩) ((x :: gone (la.take k)).length + 1) cap) ((x :: gone (la.take k)).length + 1) (ints (x :: gone (la.take k)) ++ [.int .i64 (65535 - (la[k] : Int))]))
    (hg : (wr.alloc ob).grownBy w2 v.ownBlock) (hat : v.ownBlock = some gg ∨ gg = wr.heap.size + 1) :
    Rw w w2 (.slice (some ⟨gg, 0, none⟩) ((gone (la.take k)).length + 1 + 1) cap) (x :: gone (la.take (k + 1))) (some ⟨b, o, none⟩) ∧ Nms w2 (some ⟨b, o, none⟩) la := by
  have hbl := World.block_lt_of_cell? wr _ (by obtain ⟨b', o', e, hc⟩ := hN k hlt; cases e; exact hc)
  have hne := hR.2.2
  refine ⟨⟨?_, ?_, ?_⟩, ?_⟩
  · have e0 : (gone (la.take k)).length = k := by have := len_gone (x := x) hk; simpa using this
    rw [len_gone hk] at hown
    rw [len_gone (by omega), gone_take la k hlt, e0]
    have e : ints (x :: (gone (la.take k) ++ [65535 - la[k]])) = ints (x :: gone (la.take k)) ++ [.int .i64 (65535 - (la[k] : Int))] := by
      rw [← List.cons_append, ints_snoc]
      congr 3
      omega
    rw [e]
    exact hown
  · exact (hR.2.1.alloc hR.2.1.size _).grown hg (by have := hR.2.1.size; simp; omega) (fun j hj => (hR.1.lt j hj).1)
  · intro g hgg b' o' he
    cases he
    have hgg' : gg = g := by simpa [Value.ownBlock] using hgg
    subst hgg'
    rcases hat with h | h
    · exact hne gg h b o rfl
    · have : b < wr.heap.size := hbl
      omega
  · exact (hN.alloc _).grown hg hne

set_option maxRecDepth 100000 in
set_option maxHeartbeats 4000000 in
theorem rupdate_any (n : Int) (old new : ByteArray) (w : World) (ho : old.size ≤ 70000) (hn : new.size ≤ 70000) :
    Calls Try.prog 19 #[.int .i64 n, .string old, .string new] w fun e w' => e = .returned (.int .i64 (upd n old.data.toList new.data.toList : Nat)) ∧ Below w.heap.size w w' := by
  have hc := tmod_cases n 65536
  have hr1 : -65536 < n.tmod 65536 := by omega
  have hr2 : n.tmod 65536 < 65536 := by omega
  obtain ⟨i0, hi0, hz0, hz1, hz2⟩ := info_parts Try.infoInt
  have HI := Lib.hid hi0
  have H0 := Lib.hid hz0
  have H1 := Lib.hid hz1
  have H2 := Lib.hid hz2
  clear hi0 hz0 hz1 hz2
  have hx0 : (65535 - n % 65536).toNat ≤ 65535 := by omega
  have e1 : old.data.toList.length = old.size := by simp
  have e2 : new.data.toList.length = new.size := by simp
  have hla : (wds old.data.toList).length ≤ 70000 := by rw [wds_len]; omega
  have hlb : (wds new.data.toList).length ≤ 70000 := by rw [wds_len]; omega
  have HLA := Lib.hid (wds_le old.data.toList)
  have HU := Lib.hid (updL_upd n old.data.toList new.data.toList)
  have HUL := Lib.hid (updL_le n old.data.toList new.data.toList)
  have hF := fold_le (updL n old.data.toList new.data.toList).sum
  have HWA := fun W => words_any old W ho
  have HWB := fun W => words_any new W hn
  have HWA := Lib.hid HWA
  have HWB := Lib.hid HWB
  have HUD : Hid (updL n old.data.toList new.data.toList = (65535 - n % 65536).toNat :: gone (wds old.data.toList) ++ wds new.data.toList) := Lib.hid rfl
  by_cases hs : n.tmod 65536 < 0
  all_goals
    have hq : 65535 - (if n.tmod 65536 < 0 then n.tmod 65536 + 65536 else n.tmod 65536) = (((65535 - n % 65536).toNat : Nat) : Int) := by split <;> omega
    first | rw [if_pos hs] at hq | rw [if_neg hs] at hq
    clear hc
    generalize (65535 - n % 65536).toNat = x at hq hx0 HUD
    generalize updL n old.data.toList new.data.toList = L at HU HUL hF HUD
    generalize wds old.data.toList = la at hla HLA HUD HWA
    generalize wds new.data.toList = lb at hlb HUD HWB
    have HQ := Lib.hid hq
    clear hq e1 e2
    go_enter Try.func19, Try.ntmps19
    go_wp2_with fail
    rw [HQ.out]
    refine (HWA.out _).mono ?_
    rintro e w1 ⟨va, rfl, hown, hb⟩
    obtain ⟨ao, cap, rfl, hN, hvb⟩ := own_of_nms hown
    have HR0 := Lib.hid (rw_first hvb hown hb)
    have HN0 := Lib.hid hN
    clear hown hb hN hvb
    go_wp2_with fail
    go_loopw [7, 9] (fun v i wr => ∃ k : Nat, k ≤ la.length ∧ i = .int .i64 k ∧ Rw w wr v (x :: gone (la.take k)) ao ∧ Nms wr ao la) (fun _ i _ => la.length - (intOf i).toNat)
    case atStart => exact ⟨0, Nat.zero_le _, rfl, HR0.out, HN0.out⟩
    case round =>
      obtain ⟨k, hk, rfl, hR, hN⟩ := hrel
      have HR := Lib.hid hR
      have HN := Lib.hid hN
      clear hR hN
      by_cases hlt : k < la.length
      · obtain ⟨b, o, rfl, hcell⟩ := HN.out k hlt
        have h6 : la[k] ≤ 65535 := HLA.out _ (List.getElem_mem _)
        have HX1 : Hid ((x :: gone (la.take k)).length + 1 ≤ maxLen) := Lib.hid (by rw [len_gone hk]; unfold maxLen; omega)
        have HX2 : Hid (((x :: gone (la.take k)).length + 1) * 8 ≤ 140737488355328) := Lib.hid (by rw [len_gone hk]; omega)
        have HX3 : Hid (w.heap.size ≤ (wr.alloc (.cells #[.int .i64 (65535 - (la[k] : Int))] 3)).heap.size) := Lib.hid (by have := HR.out.2.1.size; simp; omega)
        have HG := Lib.hid (gone_take la k hlt)
        go_wp2_with (at_builtin; refine wpList_append_lies _ rfl _ _ _ rfl w.heap.size 3 i0 _ 1 8 Try.underlying50 HI.out H0.out H1.out H2.out rfl Nat.one_pos _ (x :: gone (la.take k)).length (ints (x :: gone (la.take k))) rfl (HR.out.1.alloc _) ⟨wr.heap.size, 0, none⟩ 1 1 [.int .i64 (65535 - (la[k] : Int))] rfl rfl (World.news_of_block (cs := #[.int .i64 (65535 - (la[k] : Int))]) (t := 3) (fr := (0, 0)) (heap_alloc_new wr _)) (by simp [Value.oneCell']) Nat.one_pos HX1.out HX2.out HX3.out (wr.heap.size + 1) (by simp) ?_; intro gg cap9 w2 hown2 hgrow hat hlt9)
        have hrel2 := rw_next hk hlt h6 HR.out HN.out hown2 hgrow hat
        have HREL := Lib.hid hrel2
        clear hrel2 hown2 hgrow hat hlt9
        go_roundw
        case rel => exact ⟨k + 1, by omega, by go_num, HREL.out.1, HREL.out.2⟩
        case measure => simp [intOf]; omega
      · have hkk : la.take k = la := List.take_of_length_le (by omega)
        rw [hkk] at HR
        clear hkk
        go_wp2_with fail
        refine (HWB.out _).mono ?_
        rintro e w3 ⟨vb, rfl, hown3, hb3⟩
        have HO3 := Lib.hid (own_below HR.out.1 hb3 (Nat.le_refl _))
        have HB3 := Lib.hid (HR.out.2.1.trans (hb3.mono HR.out.2.1.size))
        have HZ3 := Lib.hid hb3.size
        have HX1 : Hid ((x :: gone la).length + lb.length ≤ maxLen) := Lib.hid (by simp only [gone, List.length_cons, List.length_map]; unfold maxLen; omega)
        have HX2 : Hid (((x :: gone la).length + lb.length) * 8 ≤ 140737488355328) := Lib.hid (by simp only [gone, List.length_cons, List.length_map]; omega)
        have hLL : L.length ≤ 1099511627776 := by rw [HUD.out]; simp only [gone, List.length_cons, List.length_map, List.length_append]; omega
        have HLL := Lib.hid hLL
        clear hb3 hLL
        rcases hown3.2 with ⟨rfl, h0⟩ | ⟨gb, capb, cur, rfl, _⟩
        · have hl0 : lb = [] := List.eq_nil_of_length_eq_zero h0
          subst hl0
          clear hown3
          go_wp2_with (at_builtin; refine wpList_append_own_none rfl _ _ _ rfl w.heap.size 3 i0 1 Try.underlying50 HI.out _ _ _ rfl HO3.out rfl ?_)
          have hown9 := HO3.out
          rw [show x :: gone la = L by rw [HUD.out, List.append_nil]] at hown9
          refine (rtotal_own hown9 HLL.out HUL.out).mono ?_
          rintro e w5 ⟨rfl, rfl⟩
          have hE : (((65535 - fold L.sum : Nat)) : Int) = 65535 - ((fold L.sum : Nat) : Int) := by omega
          rw [HU.out] at hE
          have HE := Lib.hid hE
          clear hE hown9
          go_wp2_with fail
          go_ret
          rw [HE.out]
          exact ⟨rfl, HB3.out⟩
        · have HC3 := Lib.hid (hown3.cells (g := gb) rfl)
          clear hown3
          go_wp2_with (at_builtin; refine wpList_append_own _ rfl _ _ _ rfl w.heap.size 3 i0 _ 1 8 Try.underlying50 HI.out H0.out H1.out H2.out rfl Nat.one_pos _ (x :: gone la).length (ints (x :: gone la)) rfl HO3.out ⟨gb, 0, none⟩ lb.length capb (ints lb) rfl (by simp [ints]) HC3.out (ints_one lb) HX1.out HX2.out (HB3.out.size) ?_; intro v4 w4 hown4 hgrow4 hnil4)
          have hown9 : w4.ownsRow w.heap.size 3 1 v4 L.length (ints L) := by
            rw [HUD.out, List.length_append]
            simpa [ints] using hown4
          have HB4 := Lib.hid (HB3.out.grown hgrow4 HB3.out.size (fun j hj => (HO3.out.lt j hj).1))
          clear hown4 hgrow4 hnil4
          refine (rtotal_own hown9 HLL.out HUL.out).mono ?_
          rintro e w5 ⟨rfl, rfl⟩
          have hE : (((65535 - fold L.sum : Nat)) : Int) = 65535 - ((fold L.sum : Nat) : Int) := by omega
          rw [HU.out] at hE
          have HE := Lib.hid hE
          clear hE hown9
          go_wp2_with fail
          go_ret
          rw [HE.out]
          exact ⟨rfl, HB4.out⟩
end Go.Proofs.Ytfpmkadlidbboaa
