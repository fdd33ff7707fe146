/-
  Proved here: the law Head64Goes answers true.
  Conditions: none.
-/
import Derived.Test.YtkihhmnlefekoaaAwk64
import Derived.Test.YtkihhmnlefekoaaFits64
import Derived.Test.YtkihhmnlefekoaaParsed
namespace Go.Proofs.Ytkihhmnlefekoaa
open Go.RowKit

theorem four_of {l : List Int} (h : l.length = 4) : ∃ y0 y1 y2 y3 : Int, l = [y0, y1, y2, y3] := by
  match l, h with
  | [a, b, c, d], _ => exact ⟨a, b, c, d, rfl⟩
theorem piece_whole {p : Pk6} (h : p.piece = true) (hf : p.frag = false) : p.more = false ∧ p.pl = 0 := by
  unfold Pk6.piece at h
  rw [hf, if_neg (by simp)] at h
  simp only [Bool.and_eq_true, beq_iff_eq, Bool.not_eq_true'] at h
  exact ⟨h.2.2, h.2.1⟩
theorem h64_size {p : Pk6} {f0 f1 f2 f3 t0 t1 t2 t3 id : Int} : ((h64 p f0 f1 f2 f3 t0 t1 t2 t3 id).bytes.size : Int) = 20 + (p.data.size : Int) := by
  unfold P4.Pkt.bytes
  rw [ByteArray.size_append, P4.headB_size]
  show (((20 + 0) + p.data.size : Nat) : Int) = 20 + (p.data.size : Int)
  omega
set_option maxRecDepth 100000 in
set_option maxHeartbeats 4000000 in
theorem goes64_long (s : ByteArray) (f0 f1 f2 f3 t0 t1 t2 t3 id : Int) (w : World) (hs : (70000 : Int) < (s.size : Int)) :
    Calls Try.prog 5 #[.string s, .agg ([.int .u8 f0, .int .u8 f1, .int .u8 f2, .int .u8 f3] : List Value).toArray, .agg ([.int .u8 t0, .int .u8 t1, .int .u8 t2, .int .u8 t3] : List Value).toArray, .int .u16 id] w (fun e w' => e = .returned (.bool true) ∧ Below w.heap.size w w') := by
  have HI_VF : Hid ((Try.prog.info? 23).map (·.size) = some (([.int .u8 f0, .int .u8 f1, .int .u8 f2, .int .u8 f3] : List Value)).length) := Lib.hid (Try.infoV4c _ _ _ _)
  have HI_VT : Hid ((Try.prog.info? 23).map (·.size) = some (([.int .u8 t0, .int .u8 t1, .int .u8 t2, .int .u8 t3] : List Value)).length) := Lib.hid (Try.infoV4c _ _ _ _)
  have HK1 : Hid (Kp w w.heap.size [(w.heap.size + 1, 23, ([.int .u8 t0, .int .u8 t1, .int .u8 t2, .int .u8 t3] : List Value)), (w.heap.size, 23, ([.int .u8 f0, .int .u8 f1, .int .u8 f2, .int .u8 f3] : List Value))] ((w.alloc (.cells ([.int .u8 f0, .int .u8 f1, .int .u8 f2, .int .u8 f3] : List Value).toArray 23)).alloc (.cells ([.int .u8 t0, .int .u8 t1, .int .u8 t2, .int .u8 t3] : List Value).toArray 23))) := Lib.hid (by
    have h := (Kp.start w).new 23 ([.int .u8 f0, .int .u8 f1, .int .u8 f2, .int .u8 f3] : List Value)
    have e1 : (w.alloc (.cells ([.int .u8 f0, .int .u8 f1, .int .u8 f2, .int .u8 f3] : List Value).toArray 23)).heap.size = w.heap.size + 1 := by simp
    have h2 := h.new 23 ([.int .u8 t0, .int .u8 t1, .int .u8 t2, .int .u8 t3] : List Value)
    rwa [e1] at h2)
  generalize ([.int .u8 f0, .int .u8 f1, .int .u8 f2, .int .u8 f3] : List Value) = VF at *
  generalize ([.int .u8 t0, .int .u8 t1, .int .u8 t2, .int .u8 t3] : List Value) = VT at *
  generalize hw1 : (w.alloc (.cells VF.toArray 23)).alloc (.cells VT.toArray 23) = w1 at *
  go_enter Try.func5, Try.ntmps5
  go_upto_region 1 with (fail)
  clear hw1
  go_wp2_with (fail)
  refine (awake64_true _).mono ?_
  rintro e w2 ⟨rfl, bb⟩
  have HK2 := Lib.hid (HK1.out.below bb (Nat.le_refl _))
  clear bb HK1
  go_wp2_with (fail)
  go_ret
  exact ⟨rfl, HK2.out.2.1⟩
set_option maxRecDepth 100000 in
set_option maxHeartbeats 4000000 in
theorem goes64_none (s : ByteArray) (f0 f1 f2 f3 t0 t1 t2 t3 id : Int) (w : World) (hs : ¬ (70000 : Int) < (s.size : Int)) (hc : pcode s ≠ 0) :
    Calls Try.prog 5 #[.string s, .agg ([.int .u8 f0, .int .u8 f1, .int .u8 f2, .int .u8 f3] : List Value).toArray, .agg ([.int .u8 t0, .int .u8 t1, .int .u8 t2, .int .u8 t3] : List Value).toArray, .int .u16 id] w (fun e w' => e = .returned (.bool true) ∧ Below w.heap.size w w') := by
  have CP := Lib.hid (fun W => parse_bad s W (by omega) hc)
  clear hc
  generalize pcode s = c at *
  have HI_VP : Hid ((Try.prog.info? 35).map (·.size) = some (pk0.vals (.slice none 0 0)).length) := Lib.hid (Try.info6 _ _)
  have HO_VP : Hid ((pk0.vals (.slice none 0 0)).toArray.all (·.oneCell') = true) := Lib.hid (vals_one _ _ rfl)
  have HL_VP : Hid ((pk0.vals (.slice none 0 0)).length = 42) := Lib.hid (vals_len _ _)
  generalize pk0.vals (.slice none 0 0) = VP at *
  have HI_VF : Hid ((Try.prog.info? 23).map (·.size) = some (([.int .u8 f0, .int .u8 f1, .int .u8 f2, .int .u8 f3] : List Value)).length) := Lib.hid (Try.infoV4c _ _ _ _)
  have HI_VT : Hid ((Try.prog.info? 23).map (·.size) = some (([.int .u8 t0, .int .u8 t1, .int .u8 t2, .int .u8 t3] : List Value)).length) := Lib.hid (Try.infoV4c _ _ _ _)
  have HK1 : Hid (Kp w w.heap.size [(w.heap.size + 1, 23, ([.int .u8 t0, .int .u8 t1, .int .u8 t2, .int .u8 t3] : List Value)), (w.heap.size, 23, ([.int .u8 f0, .int .u8 f1, .int .u8 f2, .int .u8 f3] : List Value))] ((w.alloc (.cells ([.int .u8 f0, .int .u8 f1, .int .u8 f2, .int .u8 f3] : List Value).toArray 23)).alloc (.cells ([.int .u8 t0, .int .u8 t1, .int .u8 t2, .int .u8 t3] : List Value).toArray 23))) := Lib.hid (by
    have h := (Kp.start w).new 23 ([.int .u8 f0, .int .u8 f1, .int .u8 f2, .int .u8 f3] : List Value)
    have e1 : (w.alloc (.cells ([.int .u8 f0, .int .u8 f1, .int .u8 f2, .int .u8 f3] : List Value).toArray 23)).heap.size = w.heap.size + 1 := by simp
    have h2 := h.new 23 ([.int .u8 t0, .int .u8 t1, .int .u8 t2, .int .u8 t3] : List Value)
    rwa [e1] at h2)
  generalize ([.int .u8 f0, .int .u8 f1, .int .u8 f2, .int .u8 f3] : List Value) = VF at *
  generalize ([.int .u8 t0, .int .u8 t1, .int .u8 t2, .int .u8 t3] : List Value) = VT at *
  generalize hw1 : (w.alloc (.cells VF.toArray 23)).alloc (.cells VT.toArray 23) = w1 at *
  go_enter Try.func5, Try.ntmps5
  go_upto_region 1 with (fail)
  clear hw1
  go_wp2_with (fail)
  refine (awake64_true _).mono ?_
  rintro e w2 ⟨rfl, bb⟩
  have HK2 := Lib.hid (HK1.out.below bb (Nat.le_refl _))
  clear bb HK1
  go_wp2_with (fail)
  refine (CP.out _).mono ?_
  rintro e w3 ⟨f, rfl, _, _, bb⟩
  have HK3 := Lib.hid (HK2.out.below bb (Nat.le_refl _))
  clear bb HK2
  have ht := (bk_new w3 35 ([.int .i64 0, .int .i64 0, .int .i64 0, .int .u8 0, .int .u8 0, .int .u8 0, .int .u8 0, .int .u8 0, .int .u8 0, .int .u8 0, .int .u8 0, .int .u8 0, .int .u8 0, .int .u8 0, .int .u8 0, .int .u8 0, .int .u8 0, .int .u8 0, .int .u8 0, .int .u8 0, .int .u8 0, .int .u8 0, .int .u8 0, .int .u8 0, .int .u8 0, .int .u8 0, .int .u8 0, .int .u8 0, .int .u8 0, .int .u8 0, .int .u8 0, .int .u8 0, .int .u8 0, .int .u8 0, .int .u8 0, .slice none 0 0, .bool false, .int .u32 0, .int .i64 0, .bool false, .int .i64 0, .string ⟨#[]⟩] : List Value).toArray).there VP.toArray.size (by have := HL_VP.out; simp; omega)
  go_upto_region 6 with (((with_reducible (change wpList _ _ _ _ _ _)); ((refine wpList_store_mid rfl 35 _ _ rfl (w3.heap.size) 0 VP.toArray rfl rfl ht (by simpa using HI_VP.out) HO_VP.out ?_))))
  have HK4 := Lib.hid (HK3.out.put 35 ([.int .i64 0, .int .i64 0, .int .i64 0, .int .u8 0, .int .u8 0, .int .u8 0, .int .u8 0, .int .u8 0, .int .u8 0, .int .u8 0, .int .u8 0, .int .u8 0, .int .u8 0, .int .u8 0, .int .u8 0, .int .u8 0, .int .u8 0, .int .u8 0, .int .u8 0, .int .u8 0, .int .u8 0, .int .u8 0, .int .u8 0, .int .u8 0, .int .u8 0, .int .u8 0, .int .u8 0, .int .u8 0, .int .u8 0, .int .u8 0, .int .u8 0, .int .u8 0, .int .u8 0, .int .u8 0, .int .u8 0, .slice none 0 0, .bool false, .int .u32 0, .int .i64 0, .bool false, .int .i64 0, .string ⟨#[]⟩] : List Value).toArray VP (by have := HL_VP.out; simp; omega))
  clear ht HK3
  generalize (w3.alloc (.cells ([.int .i64 0, .int .i64 0, .int .i64 0, .int .u8 0, .int .u8 0, .int .u8 0, .int .u8 0, .int .u8 0, .int .u8 0, .int .u8 0, .int .u8 0, .int .u8 0, .int .u8 0, .int .u8 0, .int .u8 0, .int .u8 0, .int .u8 0, .int .u8 0, .int .u8 0, .int .u8 0, .int .u8 0, .int .u8 0, .int .u8 0, .int .u8 0, .int .u8 0, .int .u8 0, .int .u8 0, .int .u8 0, .int .u8 0, .int .u8 0, .int .u8 0, .int .u8 0, .int .u8 0, .int .u8 0, .int .u8 0, .slice none 0 0, .bool false, .int .u32 0, .int .i64 0, .bool false, .int .i64 0, .string ⟨#[]⟩] : List Value).toArray 35)).setCells w3.heap.size 0 VP = w4 at *
  generalize w3.heap.size = g7 at *
  go_wp2_with (fail)
  go_ret
  exact ⟨rfl, HK4.out.2.1⟩
set_option maxRecDepth 100000 in
set_option maxHeartbeats 4000000 in
theorem goes64_bad (s : ByteArray) (f0 f1 f2 f3 t0 t1 t2 t3 id : Int) (w : World) (ii : 0 ≤ id ∧ id ≤ 65535) (hs : ¬ (70000 : Int) < (s.size : Int)) (hc : pcode s = 0) (hh : hcode64 (ppkt s) id ≠ 0) :
    Calls Try.prog 5 #[.string s, .agg ([.int .u8 f0, .int .u8 f1, .int .u8 f2, .int .u8 f3] : List Value).toArray, .agg ([.int .u8 t0, .int .u8 t1, .int .u8 t2, .int .u8 t3] : List Value).toArray, .int .u16 id] w (fun e w' => e = .returned (.bool true) ∧ Below w.heap.size w w') := by
  have CP := Lib.hid (fun W => parse_ok s W (by omega) hc)
  have P := parsed s hc
  clear hc
  generalize ppkt s = p at *
  obtain ⟨hl, hd, _⟩ := P.small
  have kid : IntKind.i64.wrap id = id := IntWalk.i64_in _ (by omega)
  obtain ⟨VQ, hVQ⟩ : ∃ V, V = P4.pkt0.vals := ⟨_, rfl⟩
  have CH : Hid (∀ (W : World) (v : Value), Exs W v p.exts → Calls Try.prog 9 #[.agg (p.vals v).toArray, .agg ([.int .u8 f0, .int .u8 f1, .int .u8 f2, .int .u8 f3] : List Value).toArray, .agg ([.int .u8 t0, .int .u8 t1, .int .u8 t2, .int .u8 t3] : List Value).toArray, .int .i64 id] W fun e w' =>  ∃ f : Nat, e = .returned (.tuple #[.agg VQ.toArray, .iface 75 (.pointer (some ⟨f, 0, none⟩))]) ∧ Below W.heap.size W w') := Lib.hid (fun W v hx => by
    refine (head64_any p v f0 f1 f2 f3 t0 t1 t2 t3 id W hx (by omega) (by omega)).mono ?_
    rintro e w' ⟨q, rfl, her, b⟩
    rcases her with ⟨h, _⟩ | ⟨_, f, rfl, _, _⟩
    · exact absurd h hh
    · exact ⟨f, by rw [hVQ, hout64_bad hh], b⟩)
  have HBZ : Hid (∀ W, (Instr.build 25 #[]).run Try.prog W = .ok (.agg VQ.toArray) W) := Lib.hid (fun W => by rw [hVQ]; exact build4Z W)
  have HI_VQ : Hid ((Try.prog.info? 25).map (·.size) = some VQ.length) := Lib.hid (by rw [hVQ]; exact P4.Try.infoIp _)
  have HO_VQ : Hid ((VQ).toArray.all (·.oneCell') = true) := Lib.hid (by rw [hVQ]; exact P4.vals_one _)
  have HL_VQ : Hid (VQ.length = 17) := Lib.hid (by rw [hVQ]; rfl)
  have HEV_VQ : Hid (∀ W, (binOp .eql 25 (.agg VQ.toArray) (.agg VQ.toArray)).run Try.prog W = .ok (.bool true) W) := Lib.hid (fun W => by rw [hVQ]; exact P4.eqlP (P4.pkt0) W)
  clear hVQ hh P hl hd
  have HI_VF : Hid ((Try.prog.info? 23).map (·.size) = some (([.int .u8 f0, .int .u8 f1, .int .u8 f2, .int .u8 f3] : List Value)).length) := Lib.hid (Try.infoV4c _ _ _ _)
  have HI_VT : Hid ((Try.prog.info? 23).map (·.size) = some (([.int .u8 t0, .int .u8 t1, .int .u8 t2, .int .u8 t3] : List Value)).length) := Lib.hid (Try.infoV4c _ _ _ _)
  have HK1 : Hid (Kp w w.heap.size [(w.heap.size + 1, 23, ([.int .u8 t0, .int .u8 t1, .int .u8 t2, .int .u8 t3] : List Value)), (w.heap.size, 23, ([.int .u8 f0, .int .u8 f1, .int .u8 f2, .int .u8 f3] : List Value))] ((w.alloc (.cells ([.int .u8 f0, .int .u8 f1, .int .u8 f2, .int .u8 f3] : List Value).toArray 23)).alloc (.cells ([.int .u8 t0, .int .u8 t1, .int .u8 t2, .int .u8 t3] : List Value).toArray 23))) := Lib.hid (by
    have h := (Kp.start w).new 23 ([.int .u8 f0, .int .u8 f1, .int .u8 f2, .int .u8 f3] : List Value)
    have e1 : (w.alloc (.cells ([.int .u8 f0, .int .u8 f1, .int .u8 f2, .int .u8 f3] : List Value).toArray 23)).heap.size = w.heap.size + 1 := by simp
    have h2 := h.new 23 ([.int .u8 t0, .int .u8 t1, .int .u8 t2, .int .u8 t3] : List Value)
    rwa [e1] at h2)
  generalize ([.int .u8 f0, .int .u8 f1, .int .u8 f2, .int .u8 f3] : List Value) = VF at *
  generalize ([.int .u8 t0, .int .u8 t1, .int .u8 t2, .int .u8 t3] : List Value) = VT at *
  generalize hw1 : (w.alloc (.cells VF.toArray 23)).alloc (.cells VT.toArray 23) = w1 at *
  go_enter Try.func5, Try.ntmps5
  go_upto_region 1 with (fail)
  clear hw1
  go_wp2_with (fail)
  refine (awake64_true _).mono ?_
  rintro e w2 ⟨rfl, bb⟩
  have HK2 := Lib.hid (HK1.out.below bb (Nat.le_refl _))
  clear bb HK1
  go_wp2_with (fail)
  refine (CP.out _).mono ?_
  rintro e w3 ⟨v, rfl, own, bb⟩
  have HK3 := Lib.hid (HK2.out.below bb (Nat.le_refl _))
  have HX3 := Lib.hid (exs_own own)
  have hv1 := own_one own
  clear bb own HK2
  obtain ⟨VP, hVP⟩ : ∃ V, V = p.vals v := ⟨_, rfl⟩
  rw [← hVP]
  have HI_VP : Hid ((Try.prog.info? 35).map (·.size) = some (VP).length) := Lib.hid (by rw [hVP]; exact Try.info6 _ _)
  have HO_VP : Hid ((VP).toArray.all (·.oneCell') = true) := Lib.hid (by rw [hVP]; exact vals_one _ _ hv1)
  have HL_VP : Hid ((VP).length = 42) := Lib.hid (by rw [hVP]; exact vals_len _ _)
  have CHv := Lib.hid (fun W h => CH.out W v h)
  rw [← hVP] at CHv
  clear CH hVP hv1 CP
  have hbp := below_sets VP (Nat.le_refl w3.heap.size) 0 _ ((Below.refl w3.heap.size w3).alloc (Nat.le_refl _) (.cells ([.int .i64 0, .int .i64 0, .int .i64 0, .int .u8 0, .int .u8 0, .int .u8 0, .int .u8 0, .int .u8 0, .int .u8 0, .int .u8 0, .int .u8 0, .int .u8 0, .int .u8 0, .int .u8 0, .int .u8 0, .int .u8 0, .int .u8 0, .int .u8 0, .int .u8 0, .int .u8 0, .int .u8 0, .int .u8 0, .int .u8 0, .int .u8 0, .int .u8 0, .int .u8 0, .int .u8 0, .int .u8 0, .int .u8 0, .int .u8 0, .int .u8 0, .int .u8 0, .int .u8 0, .int .u8 0, .int .u8 0, .slice none 0 0, .bool false, .int .u32 0, .int .i64 0, .bool false, .int .i64 0, .string ⟨#[]⟩] : List Value).toArray 35))
  have HX4 := Lib.hid (HX3.out.below hbp (Nat.le_refl _))
  clear hbp HX3
  have ht := (bk_new w3 35 ([.int .i64 0, .int .i64 0, .int .i64 0, .int .u8 0, .int .u8 0, .int .u8 0, .int .u8 0, .int .u8 0, .int .u8 0, .int .u8 0, .int .u8 0, .int .u8 0, .int .u8 0, .int .u8 0, .int .u8 0, .int .u8 0, .int .u8 0, .int .u8 0, .int .u8 0, .int .u8 0, .int .u8 0, .int .u8 0, .int .u8 0, .int .u8 0, .int .u8 0, .int .u8 0, .int .u8 0, .int .u8 0, .int .u8 0, .int .u8 0, .int .u8 0, .int .u8 0, .int .u8 0, .int .u8 0, .int .u8 0, .slice none 0 0, .bool false, .int .u32 0, .int .i64 0, .bool false, .int .i64 0, .string ⟨#[]⟩] : List Value).toArray).there VP.toArray.size (by have := HL_VP.out; simp; omega)
  go_upto_region 6 with (((with_reducible (change wpList _ _ _ _ _ _)); ((refine wpList_store_mid rfl 35 _ _ rfl (w3.heap.size) 0 VP.toArray rfl rfl ht (by simpa using HI_VP.out) HO_VP.out ?_))))
  have HK4 := Lib.hid (HK3.out.put 35 ([.int .i64 0, .int .i64 0, .int .i64 0, .int .u8 0, .int .u8 0, .int .u8 0, .int .u8 0, .int .u8 0, .int .u8 0, .int .u8 0, .int .u8 0, .int .u8 0, .int .u8 0, .int .u8 0, .int .u8 0, .int .u8 0, .int .u8 0, .int .u8 0, .int .u8 0, .int .u8 0, .int .u8 0, .int .u8 0, .int .u8 0, .int .u8 0, .int .u8 0, .int .u8 0, .int .u8 0, .int .u8 0, .int .u8 0, .int .u8 0, .int .u8 0, .int .u8 0, .int .u8 0, .int .u8 0, .int .u8 0, .slice none 0 0, .bool false, .int .u32 0, .int .i64 0, .bool false, .int .i64 0, .string ⟨#[]⟩] : List Value).toArray VP (by have := HL_VP.out; simp; omega))
  clear ht HK3
  generalize (w3.alloc (.cells ([.int .i64 0, .int .i64 0, .int .i64 0, .int .u8 0, .int .u8 0, .int .u8 0, .int .u8 0, .int .u8 0, .int .u8 0, .int .u8 0, .int .u8 0, .int .u8 0, .int .u8 0, .int .u8 0, .int .u8 0, .int .u8 0, .int .u8 0, .int .u8 0, .int .u8 0, .int .u8 0, .int .u8 0, .int .u8 0, .int .u8 0, .int .u8 0, .int .u8 0, .int .u8 0, .int .u8 0, .int .u8 0, .int .u8 0, .int .u8 0, .int .u8 0, .int .u8 0, .int .u8 0, .int .u8 0, .int .u8 0, .slice none 0 0, .bool false, .int .u32 0, .int .i64 0, .bool false, .int .i64 0, .string ⟨#[]⟩] : List Value).toArray 35)).setCells w3.heap.size 0 VP = w4 at *
  generalize w3.heap.size = g7 at *
  go_upto_region 8 with (fail)
  have hr0 := HK4.out.hd.range
  have hr1 := HK4.out.tl.tl.hd.range
  have hr2 := HK4.out.tl.hd.range
  go_wp2_with (((with_reducible (change wpList _ _ _ _ _ _)); (first | (refine wpList_load_mid rfl 35 _ rfl (g7) 0 rfl (VP) _ hr0 Try.underlying35 rfl HI_VP.out ?_) | (refine wpList_load_mid rfl 23 _ rfl (w.heap.size) 0 rfl (VF) _ hr1 Try.underlying23 rfl HI_VF.out ?_) | (refine wpList_load_mid rfl 23 _ rfl (w.heap.size + 1) 0 rfl (VT) _ hr2 Try.underlying23 rfl HI_VT.out ?_))))
  clear hr0 hr1 hr2
  refine (CHv.out _ HX4.out).mono ?_
  rintro e w5 ⟨f, rfl, bb⟩
  have HK5 := Lib.hid (HK4.out.below bb (Nat.le_refl _))
  clear bb HK4
  have ht := (bk_new w5 25 ([.int .i64 0, .int .i64 0, .int .i64 0, .int .i64 0, .int .i64 0, .bool false, .bool false, .int .u8 0, .int .u8 0, .int .u8 0, .int .u8 0, .int .u8 0, .int .u8 0, .int .u8 0, .int .u8 0, .string ⟨#[]⟩, .string ⟨#[]⟩] : List Value).toArray).there VQ.toArray.size (by have := HL_VQ.out; simp; omega)
  go_upto_region 9 with (((with_reducible (change wpList _ _ _ _ _ _)); ((refine wpList_store_mid rfl 25 _ _ rfl (w5.heap.size) 0 VQ.toArray rfl rfl ht (by simpa using HI_VQ.out) HO_VQ.out ?_))))
  have HK6 := Lib.hid (HK5.out.put 25 ([.int .i64 0, .int .i64 0, .int .i64 0, .int .i64 0, .int .i64 0, .bool false, .bool false, .int .u8 0, .int .u8 0, .int .u8 0, .int .u8 0, .int .u8 0, .int .u8 0, .int .u8 0, .int .u8 0, .string ⟨#[]⟩, .string ⟨#[]⟩] : List Value).toArray VQ (by have := HL_VQ.out; simp; omega))
  clear ht HK5
  generalize (w5.alloc (.cells ([.int .i64 0, .int .i64 0, .int .i64 0, .int .i64 0, .int .i64 0, .bool false, .bool false, .int .u8 0, .int .u8 0, .int .u8 0, .int .u8 0, .int .u8 0, .int .u8 0, .int .u8 0, .int .u8 0, .string ⟨#[]⟩, .string ⟨#[]⟩] : List Value).toArray 25)).setCells w5.heap.size 0 VQ = w6 at *
  generalize w5.heap.size = g9 at *
  go_upto_region 10 with (fail)
  have heq := HEV_VQ.out
  have hr0 := HK6.out.hd.range
  go_wp2_with (((with_reducible (change wpList _ _ _ _ _ _)); (first | (refine wpList_load_mid rfl 25 _ rfl (g9) 0 rfl (VQ) _ hr0 Try.underlying25 rfl HI_VQ.out ?_) | (refine Great.wpList_readTo rfl _ rfl (.agg VQ.toArray) (run_execN (T := 25) (l := #[]) (m := #[]) rfl (by simp) (HBZ.out _)) ?_))))
  go_ret
  exact ⟨rfl, HK6.out.2.1⟩
set_option maxRecDepth 100000 in
set_option maxHeartbeats 4000000 in
theorem goes64_fm (s : ByteArray) (f0 f1 f2 f3 t0 t1 t2 t3 id : Int) (w : World) (ii : 0 ≤ id ∧ id ≤ 65535) (hs : ¬ (70000 : Int) < (s.size : Int)) (hc : pcode s = 0) (hh : hcode64 (ppkt s) id = 0) (hf : (ppkt s).frag = true) (hm : (ppkt s).more = true) :
    Calls Try.prog 5 #[.string s, .agg ([.int .u8 f0, .int .u8 f1, .int .u8 f2, .int .u8 f3] : List Value).toArray, .agg ([.int .u8 t0, .int .u8 t1, .int .u8 t2, .int .u8 t3] : List Value).toArray, .int .u16 id] w (fun e w' => e = .returned (.bool true) ∧ Below w.heap.size w w') := by
  have CP := Lib.hid (fun W => parse_ok s W (by omega) hc)
  have P := parsed s hc
  clear hc
  generalize ppkt s = p at *
  obtain ⟨hl, hd, _⟩ := P.small
  have kid : IntKind.i64.wrap id = id := IntWalk.i64_in _ (by omega)
  have hq : h64 p f0 f1 f2 f3 t0 t1 t2 t3 id = ⟨p.cls, p.id % 65536, p.hop - 1, pr64 p.proto, p.pl, false, true, f0, f1, f2, f3, t0, t1, t2, t3, ⟨#[]⟩, p.data⟩ := by unfold h64; rw [hf, if_pos rfl, if_pos rfl, hm]; rfl
  have hwq := h64_why (f0 := f0) (f1 := f1) (f2 := f2) (f3 := f3) (t0 := t0) (t1 := t1) (t2 := t2) (t3 := t3) (why_of P.ok) hh
  have hbz := h64_size (p := p) (f0 := f0) (f1 := f1) (f2 := f2) (f3 := f3) (t0 := t0) (t1 := t1) (t2 := t2) (t3 := t3) (id := id)
  obtain ⟨a0, a1, _⟩ := hcode64_ok hh
  obtain ⟨VQ, hVQ⟩ : ∃ V, V = (h64 p f0 f1 f2 f3 t0 t1 t2 t3 id).vals := ⟨_, rfl⟩
  have CH : Hid (∀ (W : World) (v : Value), Exs W v p.exts → Calls Try.prog 9 #[.agg (p.vals v).toArray, .agg ([.int .u8 f0, .int .u8 f1, .int .u8 f2, .int .u8 f3] : List Value).toArray, .agg ([.int .u8 t0, .int .u8 t1, .int .u8 t2, .int .u8 t3] : List Value).toArray, .int .i64 id] W fun e w' =>  e = .returned (.tuple #[.agg VQ.toArray, .nilIface]) ∧ Below W.heap.size W w') := Lib.hid (fun W v hx => by
    refine (head64_any p v f0 f1 f2 f3 t0 t1 t2 t3 id W hx (by omega) (by omega)).mono ?_
    rintro e w' ⟨q, rfl, her, b⟩
    rcases her with ⟨_, rfl⟩ | ⟨h, _⟩
    · exact ⟨by rw [hVQ, hout64_ok hh], b⟩
    · exact absurd hh h)
  obtain ⟨qb, hqb⟩ : ∃ b, b = (h64 p f0 f1 f2 f3 t0 t1 t2 t3 id).bytes := ⟨_, rfl⟩
  rw [← hqb] at hbz
  have CB : Hid (∀ W, Calls Try.prog 20 #[.agg VQ.toArray] W fun e w' => e = .returned (.tuple #[.string qb, .nilIface]) ∧ Below W.heap.size W w') := Lib.hid (fun W => by rw [hVQ, hqb]; exact P4.bytes_ok _ W hwq)
  have HC_VQ_1 : Hid (VQ[1]? = some (.int .i64 (p.id % 65536))) := Lib.hid (by rw [hVQ, hq]; rfl)
  have HC_VQ_2 : Hid (VQ[2]? = some (.int .i64 (p.hop - 1))) := Lib.hid (by rw [hVQ, hq]; rfl)
  have HC_VQ_4 : Hid (VQ[4]? = some (.int .i64 p.pl)) := Lib.hid (by rw [hVQ, hq]; rfl)
  have HC_VQ_5 : Hid (VQ[5]? = some (.bool false)) := Lib.hid (by rw [hVQ, hq]; rfl)
  have HC_VQ_6 : Hid (VQ[6]? = some (.bool true)) := Lib.hid (by rw [hVQ, hq]; rfl)
  have HC_VQ_15 : Hid (VQ[15]? = some (.string ⟨#[]⟩)) := Lib.hid (by rw [hVQ, hq]; rfl)
  have HC_VQ_16 : Hid (VQ[16]? = some (.string p.data)) := Lib.hid (by rw [hVQ, hq]; rfl)
  have HI_VQ : Hid ((Try.prog.info? 25).map (·.size) = some VQ.length) := Lib.hid (by rw [hVQ]; exact P4.Try.infoIp _)
  have HO_VQ : Hid ((VQ).toArray.all (·.oneCell') = true) := Lib.hid (by rw [hVQ]; exact P4.vals_one _)
  have HL_VQ : Hid (VQ.length = 17) := Lib.hid (by rw [hVQ]; rfl)
  have kw : IntKind.i64.wrap (p.hop - 1) = p.hop - 1 := IntWalk.i64_in _ (by omega)
  have hg : (0 : Int) < p.hop - 1 := by omega
  have hg2 : (1 : Int) < p.hop := by omega
  have HNUM := Lib.hid (And.intro kw (And.intro hg (And.intro hg2 trivial)))
  have HFM := Lib.hid (And.intro hf (And.intro hm trivial))
  clear kw hg hg2 hbz hqb hwq hq hVQ hh P hl a0 a1 hf hm
  have HI_VF : Hid ((Try.prog.info? 23).map (·.size) = some (([.int .u8 f0, .int .u8 f1, .int .u8 f2, .int .u8 f3] : List Value)).length) := Lib.hid (Try.infoV4c _ _ _ _)
  have HI_VT : Hid ((Try.prog.info? 23).map (·.size) = some (([.int .u8 t0, .int .u8 t1, .int .u8 t2, .int .u8 t3] : List Value)).length) := Lib.hid (Try.infoV4c _ _ _ _)
  have HK1 : Hid (Kp w w.heap.size [(w.heap.size + 1, 23, ([.int .u8 t0, .int .u8 t1, .int .u8 t2, .int .u8 t3] : List Value)), (w.heap.size, 23, ([.int .u8 f0, .int .u8 f1, .int .u8 f2, .int .u8 f3] : List Value))] ((w.alloc (.cells ([.int .u8 f0, .int .u8 f1, .int .u8 f2, .int .u8 f3] : List Value).toArray 23)).alloc (.cells ([.int .u8 t0, .int .u8 t1, .int .u8 t2, .int .u8 t3] : List Value).toArray 23))) := Lib.hid (by
    have h := (Kp.start w).new 23 ([.int .u8 f0, .int .u8 f1, .int .u8 f2, .int .u8 f3] : List Value)
    have e1 : (w.alloc (.cells ([.int .u8 f0, .int .u8 f1, .int .u8 f2, .int .u8 f3] : List Value).toArray 23)).heap.size = w.heap.size + 1 := by simp
    have h2 := h.new 23 ([.int .u8 t0, .int .u8 t1, .int .u8 t2, .int .u8 t3] : List Value)
    rwa [e1] at h2)
  generalize ([.int .u8 f0, .int .u8 f1, .int .u8 f2, .int .u8 f3] : List Value) = VF at *
  generalize ([.int .u8 t0, .int .u8 t1, .int .u8 t2, .int .u8 t3] : List Value) = VT at *
  generalize hw1 : (w.alloc (.cells VF.toArray 23)).alloc (.cells VT.toArray 23) = w1 at *
  go_enter Try.func5, Try.ntmps5
  go_upto_region 1 with (fail)
  clear hw1
  go_wp2_with (fail)
  refine (awake64_true _).mono ?_
  rintro e w2 ⟨rfl, bb⟩
  have HK2 := Lib.hid (HK1.out.below bb (Nat.le_refl _))
  clear bb HK1
  go_wp2_with (fail)
  refine (CP.out _).mono ?_
  rintro e w3 ⟨v, rfl, own, bb⟩
  have HK3 := Lib.hid (HK2.out.below bb (Nat.le_refl _))
  have HX3 := Lib.hid (exs_own own)
  have hv1 := own_one own
  clear bb own HK2
  obtain ⟨VP, hVP⟩ : ∃ V, V = p.vals v := ⟨_, rfl⟩
  rw [← hVP]
  have HI_VP : Hid ((Try.prog.info? 35).map (·.size) = some (VP).length) := Lib.hid (by rw [hVP]; exact Try.info6 _ _)
  have HO_VP : Hid ((VP).toArray.all (·.oneCell') = true) := Lib.hid (by rw [hVP]; exact vals_one _ _ hv1)
  have HL_VP : Hid ((VP).length = 42) := Lib.hid (by rw [hVP]; exact vals_len _ _)
  have HC_VP_2 : Hid (VP[2]? = some (.int .i64 p.hop)) := Lib.hid (by rw [hVP]; rfl)
  have HC_VP_36 : Hid (VP[36]? = some (.bool true)) := Lib.hid (by rw [hVP]; rw [← HFM.out.1]; exact vals_tail p v 1)
  have HC_VP_38 : Hid (VP[38]? = some (.int .i64 p.pl)) := Lib.hid (by rw [hVP]; exact vals_tail p v 3)
  have HC_VP_39 : Hid (VP[39]? = some (.bool true)) := Lib.hid (by rw [hVP]; rw [← HFM.out.2.1]; exact vals_tail p v 4)
  have HC_VP_41 : Hid (VP[41]? = some (.string p.data)) := Lib.hid (by rw [hVP]; exact vals_tail p v 6)
  have CHv := Lib.hid (fun W h => CH.out W v h)
  rw [← hVP] at CHv
  clear CH hVP hv1 CP
  have hbp := below_sets VP (Nat.le_refl w3.heap.size) 0 _ ((Below.refl w3.heap.size w3).alloc (Nat.le_refl _) (.cells ([.int .i64 0, .int .i64 0, .int .i64 0, .int .u8 0, .int .u8 0, .int .u8 0, .int .u8 0, .int .u8 0, .int .u8 0, .int .u8 0, .int .u8 0, .int .u8 0, .int .u8 0, .int .u8 0, .int .u8 0, .int .u8 0, .int .u8 0, .int .u8 0, .int .u8 0, .int .u8 0, .int .u8 0, .int .u8 0, .int .u8 0, .int .u8 0, .int .u8 0, .int .u8 0, .int .u8 0, .int .u8 0, .int .u8 0, .int .u8 0, .int .u8 0, .int .u8 0, .int .u8 0, .int .u8 0, .int .u8 0, .slice none 0 0, .bool false, .int .u32 0, .int .i64 0, .bool false, .int .i64 0, .string ⟨#[]⟩] : List Value).toArray 35))
  have HX4 := Lib.hid (HX3.out.below hbp (Nat.le_refl _))
  clear hbp HX3
  have ht := (bk_new w3 35 ([.int .i64 0, .int .i64 0, .int .i64 0, .int .u8 0, .int .u8 0, .int .u8 0, .int .u8 0, .int .u8 0, .int .u8 0, .int .u8 0, .int .u8 0, .int .u8 0, .int .u8 0, .int .u8 0, .int .u8 0, .int .u8 0, .int .u8 0, .int .u8 0, .int .u8 0, .int .u8 0, .int .u8 0, .int .u8 0, .int .u8 0, .int .u8 0, .int .u8 0, .int .u8 0, .int .u8 0, .int .u8 0, .int .u8 0, .int .u8 0, .int .u8 0, .int .u8 0, .int .u8 0, .int .u8 0, .int .u8 0, .slice none 0 0, .bool false, .int .u32 0, .int .i64 0, .bool false, .int .i64 0, .string ⟨#[]⟩] : List Value).toArray).there VP.toArray.size (by have := HL_VP.out; simp; omega)
  go_upto_region 6 with (((with_reducible (change wpList _ _ _ _ _ _)); ((refine wpList_store_mid rfl 35 _ _ rfl (w3.heap.size) 0 VP.toArray rfl rfl ht (by simpa using HI_VP.out) HO_VP.out ?_))))
  have HK4 := Lib.hid (HK3.out.put 35 ([.int .i64 0, .int .i64 0, .int .i64 0, .int .u8 0, .int .u8 0, .int .u8 0, .int .u8 0, .int .u8 0, .int .u8 0, .int .u8 0, .int .u8 0, .int .u8 0, .int .u8 0, .int .u8 0, .int .u8 0, .int .u8 0, .int .u8 0, .int .u8 0, .int .u8 0, .int .u8 0, .int .u8 0, .int .u8 0, .int .u8 0, .int .u8 0, .int .u8 0, .int .u8 0, .int .u8 0, .int .u8 0, .int .u8 0, .int .u8 0, .int .u8 0, .int .u8 0, .int .u8 0, .int .u8 0, .int .u8 0, .slice none 0 0, .bool false, .int .u32 0, .int .i64 0, .bool false, .int .i64 0, .string ⟨#[]⟩] : List Value).toArray VP (by have := HL_VP.out; simp; omega))
  clear ht HK3
  generalize (w3.alloc (.cells ([.int .i64 0, .int .i64 0, .int .i64 0, .int .u8 0, .int .u8 0, .int .u8 0, .int .u8 0, .int .u8 0, .int .u8 0, .int .u8 0, .int .u8 0, .int .u8 0, .int .u8 0, .int .u8 0, .int .u8 0, .int .u8 0, .int .u8 0, .int .u8 0, .int .u8 0, .int .u8 0, .int .u8 0, .int .u8 0, .int .u8 0, .int .u8 0, .int .u8 0, .int .u8 0, .int .u8 0, .int .u8 0, .int .u8 0, .int .u8 0, .int .u8 0, .int .u8 0, .int .u8 0, .int .u8 0, .int .u8 0, .slice none 0 0, .bool false, .int .u32 0, .int .i64 0, .bool false, .int .i64 0, .string ⟨#[]⟩] : List Value).toArray 35)).setCells w3.heap.size 0 VP = w4 at *
  generalize w3.heap.size = g7 at *
  go_upto_region 8 with (fail)
  have hr0 := HK4.out.hd.range
  have hr1 := HK4.out.tl.tl.hd.range
  have hr2 := HK4.out.tl.hd.range
  go_wp2_with (((with_reducible (change wpList _ _ _ _ _ _)); (first | (refine wpList_load_mid rfl 35 _ rfl (g7) 0 rfl (VP) _ hr0 Try.underlying35 rfl HI_VP.out ?_) | (refine wpList_load_mid rfl 23 _ rfl (w.heap.size) 0 rfl (VF) _ hr1 Try.underlying23 rfl HI_VF.out ?_) | (refine wpList_load_mid rfl 23 _ rfl (w.heap.size + 1) 0 rfl (VT) _ hr2 Try.underlying23 rfl HI_VT.out ?_))))
  clear hr0 hr1 hr2
  refine (CHv.out _ HX4.out).mono ?_
  rintro e w5 ⟨rfl, bb⟩
  have HK5 := Lib.hid (HK4.out.below bb (Nat.le_refl _))
  clear bb HK4
  have ht := (bk_new w5 25 ([.int .i64 0, .int .i64 0, .int .i64 0, .int .i64 0, .int .i64 0, .bool false, .bool false, .int .u8 0, .int .u8 0, .int .u8 0, .int .u8 0, .int .u8 0, .int .u8 0, .int .u8 0, .int .u8 0, .string ⟨#[]⟩, .string ⟨#[]⟩] : List Value).toArray).there VQ.toArray.size (by have := HL_VQ.out; simp; omega)
  go_upto_region 9 with (((with_reducible (change wpList _ _ _ _ _ _)); ((refine wpList_store_mid rfl 25 _ _ rfl (w5.heap.size) 0 VQ.toArray rfl rfl ht (by simpa using HI_VQ.out) HO_VQ.out ?_))))
  have HK6 := Lib.hid (HK5.out.put 25 ([.int .i64 0, .int .i64 0, .int .i64 0, .int .i64 0, .int .i64 0, .bool false, .bool false, .int .u8 0, .int .u8 0, .int .u8 0, .int .u8 0, .int .u8 0, .int .u8 0, .int .u8 0, .int .u8 0, .string ⟨#[]⟩, .string ⟨#[]⟩] : List Value).toArray VQ (by have := HL_VQ.out; simp; omega))
  clear ht HK5
  generalize (w5.alloc (.cells ([.int .i64 0, .int .i64 0, .int .i64 0, .int .i64 0, .int .i64 0, .bool false, .bool false, .int .u8 0, .int .u8 0, .int .u8 0, .int .u8 0, .int .u8 0, .int .u8 0, .int .u8 0, .int .u8 0, .string ⟨#[]⟩, .string ⟨#[]⟩] : List Value).toArray 25)).setCells w5.heap.size 0 VQ = w6 at *
  generalize w5.heap.size = g9 at *
  go_upto_region 11 with (fail)
  have hr0 := HK6.out.hd.range
  go_wp2_with (((with_reducible (change wpList _ _ _ _ _ _)); ((refine wpList_load_mid rfl 25 _ rfl (g9) 0 rfl (VQ) _ hr0 Try.underlying25 rfl HI_VQ.out ?_))))
  clear hr0
  refine (CB.out _).mono ?_
  rintro e w7 ⟨rfl, bb⟩
  have HK7 := Lib.hid (HK6.out.below bb (Nat.le_refl _))
  clear bb HK6
  go_upto_region 12 with (fail)
  have c2 : w7.cell? ⟨g7, 2, none⟩ = some (.int .i64 p.hop) := HK7.out.tl.hd.at HC_VP_2.out
  have c36 : w7.cell? ⟨g7, 36, none⟩ = some (.bool true) := HK7.out.tl.hd.at HC_VP_36.out
  have c38 : w7.cell? ⟨g7, 38, none⟩ = some (.int .i64 p.pl) := HK7.out.tl.hd.at HC_VP_38.out
  have c39 : w7.cell? ⟨g7, 39, none⟩ = some (.bool true) := HK7.out.tl.hd.at HC_VP_39.out
  have c41 : w7.cell? ⟨g7, 41, none⟩ = some (.string p.data) := HK7.out.tl.hd.at HC_VP_41.out
  have d1 : w7.cell? ⟨g9, 1, none⟩ = some (.int .i64 (p.id % 65536)) := HK7.out.hd.at HC_VQ_1.out
  have d2 : w7.cell? ⟨g9, 2, none⟩ = some (.int .i64 (p.hop - 1)) := HK7.out.hd.at HC_VQ_2.out
  have d4 : w7.cell? ⟨g9, 4, none⟩ = some (.int .i64 p.pl) := HK7.out.hd.at HC_VQ_4.out
  have d5 : w7.cell? ⟨g9, 5, none⟩ = some (.bool false) := HK7.out.hd.at HC_VQ_5.out
  have d6 : w7.cell? ⟨g9, 6, none⟩ = some (.bool true) := HK7.out.hd.at HC_VQ_6.out
  have d15 : w7.cell? ⟨g9, 15, none⟩ = some (.string ⟨#[]⟩) := HK7.out.hd.at HC_VQ_15.out
  have d16 : w7.cell? ⟨g9, 16, none⟩ = some (.string p.data) := HK7.out.hd.at HC_VQ_16.out
  obtain ⟨kw, hg, hg2, hlen⟩ := HNUM.out
  go_wp2_with (fail)
  go_ret
  refine ⟨?_, HK7.out.2.1⟩
  first | rfl | (simp; done) | (simp; omega)
set_option maxRecDepth 100000 in
set_option maxHeartbeats 4000000 in
theorem goes64_fa (s : ByteArray) (f0 f1 f2 f3 t0 t1 t2 t3 id : Int) (w : World) (ii : 0 ≤ id ∧ id ≤ 65535) (hs : ¬ (70000 : Int) < (s.size : Int)) (hc : pcode s = 0) (hh : hcode64 (ppkt s) id = 0) (hf : (ppkt s).frag = true) (hm : (ppkt s).more = false) :
    Calls Try.prog 5 #[.string s, .agg ([.int .u8 f0, .int .u8 f1, .int .u8 f2, .int .u8 f3] : List Value).toArray, .agg ([.int .u8 t0, .int .u8 t1, .int .u8 t2, .int .u8 t3] : List Value).toArray, .int .u16 id] w (fun e w' => e = .returned (.bool true) ∧ Below w.heap.size w w') := by
  have CP := Lib.hid (fun W => parse_ok s W (by omega) hc)
  have P := parsed s hc
  clear hc
  generalize ppkt s = p at *
  obtain ⟨hl, hd, _⟩ := P.small
  have kid : IntKind.i64.wrap id = id := IntWalk.i64_in _ (by omega)
  have hq : h64 p f0 f1 f2 f3 t0 t1 t2 t3 id = ⟨p.cls, p.id % 65536, p.hop - 1, pr64 p.proto, p.pl, false, false, f0, f1, f2, f3, t0, t1, t2, t3, ⟨#[]⟩, p.data⟩ := by unfold h64; rw [hf, if_pos rfl, if_pos rfl, hm]; rfl
  have hwq := h64_why (f0 := f0) (f1 := f1) (f2 := f2) (f3 := f3) (t0 := t0) (t1 := t1) (t2 := t2) (t3 := t3) (why_of P.ok) hh
  have hbz := h64_size (p := p) (f0 := f0) (f1 := f1) (f2 := f2) (f3 := f3) (t0 := t0) (t1 := t1) (t2 := t2) (t3 := t3) (id := id)
  obtain ⟨a0, a1, _⟩ := hcode64_ok hh
  obtain ⟨VQ, hVQ⟩ : ∃ V, V = (h64 p f0 f1 f2 f3 t0 t1 t2 t3 id).vals := ⟨_, rfl⟩
  have CH : Hid (∀ (W : World) (v : Value), Exs W v p.exts → Calls Try.prog 9 #[.agg (p.vals v).toArray, .agg ([.int .u8 f0, .int .u8 f1, .int .u8 f2, .int .u8 f3] : List Value).toArray, .agg ([.int .u8 t0, .int .u8 t1, .int .u8 t2, .int .u8 t3] : List Value).toArray, .int .i64 id] W fun e w' =>  e = .returned (.tuple #[.agg VQ.toArray, .nilIface]) ∧ Below W.heap.size W w') := Lib.hid (fun W v hx => by
    refine (head64_any p v f0 f1 f2 f3 t0 t1 t2 t3 id W hx (by omega) (by omega)).mono ?_
    rintro e w' ⟨q, rfl, her, b⟩
    rcases her with ⟨_, rfl⟩ | ⟨h, _⟩
    · exact ⟨by rw [hVQ, hout64_ok hh], b⟩
    · exact absurd hh h)
  obtain ⟨qb, hqb⟩ : ∃ b, b = (h64 p f0 f1 f2 f3 t0 t1 t2 t3 id).bytes := ⟨_, rfl⟩
  rw [← hqb] at hbz
  have CB : Hid (∀ W, Calls Try.prog 20 #[.agg VQ.toArray] W fun e w' => e = .returned (.tuple #[.string qb, .nilIface]) ∧ Below W.heap.size W w') := Lib.hid (fun W => by rw [hVQ, hqb]; exact P4.bytes_ok _ W hwq)
  have HC_VQ_1 : Hid (VQ[1]? = some (.int .i64 (p.id % 65536))) := Lib.hid (by rw [hVQ, hq]; rfl)
  have HC_VQ_2 : Hid (VQ[2]? = some (.int .i64 (p.hop - 1))) := Lib.hid (by rw [hVQ, hq]; rfl)
  have HC_VQ_4 : Hid (VQ[4]? = some (.int .i64 p.pl)) := Lib.hid (by rw [hVQ, hq]; rfl)
  have HC_VQ_5 : Hid (VQ[5]? = some (.bool false)) := Lib.hid (by rw [hVQ, hq]; rfl)
  have HC_VQ_6 : Hid (VQ[6]? = some (.bool false)) := Lib.hid (by rw [hVQ, hq]; rfl)
  have HC_VQ_15 : Hid (VQ[15]? = some (.string ⟨#[]⟩)) := Lib.hid (by rw [hVQ, hq]; rfl)
  have HC_VQ_16 : Hid (VQ[16]? = some (.string p.data)) := Lib.hid (by rw [hVQ, hq]; rfl)
  have HI_VQ : Hid ((Try.prog.info? 25).map (·.size) = some VQ.length) := Lib.hid (by rw [hVQ]; exact P4.Try.infoIp _)
  have HO_VQ : Hid ((VQ).toArray.all (·.oneCell') = true) := Lib.hid (by rw [hVQ]; exact P4.vals_one _)
  have HL_VQ : Hid (VQ.length = 17) := Lib.hid (by rw [hVQ]; rfl)
  have kw : IntKind.i64.wrap (p.hop - 1) = p.hop - 1 := IntWalk.i64_in _ (by omega)
  have hg : (0 : Int) < p.hop - 1 := by omega
  have hg2 : (1 : Int) < p.hop := by omega
  have HNUM := Lib.hid (And.intro kw (And.intro hg (And.intro hg2 trivial)))
  have HFM := Lib.hid (And.intro hf (And.intro hm trivial))
  clear kw hg hg2 hbz hqb hwq hq hVQ hh P hl a0 a1 hf hm
  have HI_VF : Hid ((Try.prog.info? 23).map (·.size) = some (([.int .u8 f0, .int .u8 f1, .int .u8 f2, .int .u8 f3] : List Value)).length) := Lib.hid (Try.infoV4c _ _ _ _)
  have HI_VT : Hid ((Try.prog.info? 23).map (·.size) = some (([.int .u8 t0, .int .u8 t1, .int .u8 t2, .int .u8 t3] : List Value)).length) := Lib.hid (Try.infoV4c _ _ _ _)
  have HK1 : Hid (Kp w w.heap.size [(w.heap.size + 1, 23, ([.int .u8 t0, .int .u8 t1, .int .u8 t2, .int .u8 t3] : List Value)), (w.heap.size, 23, ([.int .u8 f0, .int .u8 f1, .int .u8 f2, .int .u8 f3] : List Value))] ((w.alloc (.cells ([.int .u8 f0, .int .u8 f1, .int .u8 f2, .int .u8 f3] : List Value).toArray 23)).alloc (.cells ([.int .u8 t0, .int .u8 t1, .int .u8 t2, .int .u8 t3] : List Value).toArray 23))) := Lib.hid (by
    have h := (Kp.start w).new 23 ([.int .u8 f0, .int .u8 f1, .int .u8 f2, .int .u8 f3] : List Value)
    have e1 : (w.alloc (.cells ([.int .u8 f0, .int .u8 f1, .int .u8 f2, .int .u8 f3] : List Value).toArray 23)).heap.size = w.heap.size + 1 := by simp
    have h2 := h.new 23 ([.int .u8 t0, .int .u8 t1, .int .u8 t2, .int .u8 t3] : List Value)
    rwa [e1] at h2)
  generalize ([.int .u8 f0, .int .u8 f1, .int .u8 f2, .int .u8 f3] : List Value) = VF at *
  generalize ([.int .u8 t0, .int .u8 t1, .int .u8 t2, .int .u8 t3] : List Value) = VT at *
  generalize hw1 : (w.alloc (.cells VF.toArray 23)).alloc (.cells VT.toArray 23) = w1 at *
  go_enter Try.func5, Try.ntmps5
  go_upto_region 1 with (fail)
  clear hw1
  go_wp2_with (fail)
  refine (awake64_true _).mono ?_
  rintro e w2 ⟨rfl, bb⟩
  have HK2 := Lib.hid (HK1.out.below bb (Nat.le_refl _))
  clear bb HK1
  go_wp2_with (fail)
  refine (CP.out _).mono ?_
  rintro e w3 ⟨v, rfl, own, bb⟩
  have HK3 := Lib.hid (HK2.out.below bb (Nat.le_refl _))
  have HX3 := Lib.hid (exs_own own)
  have hv1 := own_one own
  clear bb own HK2
  obtain ⟨VP, hVP⟩ : ∃ V, V = p.vals v := ⟨_, rfl⟩
  rw [← hVP]
  have HI_VP : Hid ((Try.prog.info? 35).map (·.size) = some (VP).length) := Lib.hid (by rw [hVP]; exact Try.info6 _ _)
  have HO_VP : Hid ((VP).toArray.all (·.oneCell') = true) := Lib.hid (by rw [hVP]; exact vals_one _ _ hv1)
  have HL_VP : Hid ((VP).length = 42) := Lib.hid (by rw [hVP]; exact vals_len _ _)
  have HC_VP_2 : Hid (VP[2]? = some (.int .i64 p.hop)) := Lib.hid (by rw [hVP]; rfl)
  have HC_VP_36 : Hid (VP[36]? = some (.bool true)) := Lib.hid (by rw [hVP]; rw [← HFM.out.1]; exact vals_tail p v 1)
  have HC_VP_38 : Hid (VP[38]? = some (.int .i64 p.pl)) := Lib.hid (by rw [hVP]; exact vals_tail p v 3)
  have HC_VP_39 : Hid (VP[39]? = some (.bool false)) := Lib.hid (by rw [hVP]; rw [← HFM.out.2.1]; exact vals_tail p v 4)
  have HC_VP_41 : Hid (VP[41]? = some (.string p.data)) := Lib.hid (by rw [hVP]; exact vals_tail p v 6)
  have CHv := Lib.hid (fun W h => CH.out W v h)
  rw [← hVP] at CHv
  clear CH hVP hv1 CP
  have hbp := below_sets VP (Nat.le_refl w3.heap.size) 0 _ ((Below.refl w3.heap.size w3).alloc (Nat.le_refl _) (.cells ([.int .i64 0, .int .i64 0, .int .i64 0, .int .u8 0, .int .u8 0, .int .u8 0, .int .u8 0, .int .u8 0, .int .u8 0, .int .u8 0, .int .u8 0, .int .u8 0, .int .u8 0, .int .u8 0, .int .u8 0, .int .u8 0, .int .u8 0, .int .u8 0, .int .u8 0, .int .u8 0, .int .u8 0, .int .u8 0, .int .u8 0, .int .u8 0, .int .u8 0, .int .u8 0, .int .u8 0, .int .u8 0, .int .u8 0, .int .u8 0, .int .u8 0, .int .u8 0, .int .u8 0, .int .u8 0, .int .u8 0, .slice none 0 0, .bool false, .int .u32 0, .int .i64 0, .bool false, .int .i64 0, .string ⟨#[]⟩] : List Value).toArray 35))
  have HX4 := Lib.hid (HX3.out.below hbp (Nat.le_refl _))
  clear hbp HX3
  have ht := (bk_new w3 35 ([.int .i64 0, .int .i64 0, .int .i64 0, .int .u8 0, .int .u8 0, .int .u8 0, .int .u8 0, .int .u8 0, .int .u8 0, .int .u8 0, .int .u8 0, .int .u8 0, .int .u8 0, .int .u8 0, .int .u8 0, .int .u8 0, .int .u8 0, .int .u8 0, .int .u8 0, .int .u8 0, .int .u8 0, .int .u8 0, .int .u8 0, .int .u8 0, .int .u8 0, .int .u8 0, .int .u8 0, .int .u8 0, .int .u8 0, .int .u8 0, .int .u8 0, .int .u8 0, .int .u8 0, .int .u8 0, .int .u8 0, .slice none 0 0, .bool false, .int .u32 0, .int .i64 0, .bool false, .int .i64 0, .string ⟨#[]⟩] : List Value).toArray).there VP.toArray.size (by have := HL_VP.out; simp; omega)
  go_upto_region 6 with (((with_reducible (change wpList _ _ _ _ _ _)); ((refine wpList_store_mid rfl 35 _ _ rfl (w3.heap.size) 0 VP.toArray rfl rfl ht (by simpa using HI_VP.out) HO_VP.out ?_))))
  have HK4 := Lib.hid (HK3.out.put 35 ([.int .i64 0, .int .i64 0, .int .i64 0, .int .u8 0, .int .u8 0, .int .u8 0, .int .u8 0, .int .u8 0, .int .u8 0, .int .u8 0, .int .u8 0, .int .u8 0, .int .u8 0, .int .u8 0, .int .u8 0, .int .u8 0, .int .u8 0, .int .u8 0, .int .u8 0, .int .u8 0, .int .u8 0, .int .u8 0, .int .u8 0, .int .u8 0, .int .u8 0, .int .u8 0, .int .u8 0, .int .u8 0, .int .u8 0, .int .u8 0, .int .u8 0, .int .u8 0, .int .u8 0, .int .u8 0, .int .u8 0, .slice none 0 0, .bool false, .int .u32 0, .int .i64 0, .bool false, .int .i64 0, .string ⟨#[]⟩] : List Value).toArray VP (by have := HL_VP.out; simp; omega))
  clear ht HK3
  generalize (w3.alloc (.cells ([.int .i64 0, .int .i64 0, .int .i64 0, .int .u8 0, .int .u8 0, .int .u8 0, .int .u8 0, .int .u8 0, .int .u8 0, .int .u8 0, .int .u8 0, .int .u8 0, .int .u8 0, .int .u8 0, .int .u8 0, .int .u8 0, .int .u8 0, .int .u8 0, .int .u8 0, .int .u8 0, .int .u8 0, .int .u8 0, .int .u8 0, .int .u8 0, .int .u8 0, .int .u8 0, .int .u8 0, .int .u8 0, .int .u8 0, .int .u8 0, .int .u8 0, .int .u8 0, .int .u8 0, .int .u8 0, .int .u8 0, .slice none 0 0, .bool false, .int .u32 0, .int .i64 0, .bool false, .int .i64 0, .string ⟨#[]⟩] : List Value).toArray 35)).setCells w3.heap.size 0 VP = w4 at *
  generalize w3.heap.size = g7 at *
  go_upto_region 8 with (fail)
  have hr0 := HK4.out.hd.range
  have hr1 := HK4.out.tl.tl.hd.range
  have hr2 := HK4.out.tl.hd.range
  go_wp2_with (((with_reducible (change wpList _ _ _ _ _ _)); (first | (refine wpList_load_mid rfl 35 _ rfl (g7) 0 rfl (VP) _ hr0 Try.underlying35 rfl HI_VP.out ?_) | (refine wpList_load_mid rfl 23 _ rfl (w.heap.size) 0 rfl (VF) _ hr1 Try.underlying23 rfl HI_VF.out ?_) | (refine wpList_load_mid rfl 23 _ rfl (w.heap.size + 1) 0 rfl (VT) _ hr2 Try.underlying23 rfl HI_VT.out ?_))))
  clear hr0 hr1 hr2
  refine (CHv.out _ HX4.out).mono ?_
  rintro e w5 ⟨rfl, bb⟩
  have HK5 := Lib.hid (HK4.out.below bb (Nat.le_refl _))
  clear bb HK4
  have ht := (bk_new w5 25 ([.int .i64 0, .int .i64 0, .int .i64 0, .int .i64 0, .int .i64 0, .bool false, .bool false, .int .u8 0, .int .u8 0, .int .u8 0, .int .u8 0, .int .u8 0, .int .u8 0, .int .u8 0, .int .u8 0, .string ⟨#[]⟩, .string ⟨#[]⟩] : List Value).toArray).there VQ.toArray.size (by have := HL_VQ.out; simp; omega)
  go_upto_region 9 with (((with_reducible (change wpList _ _ _ _ _ _)); ((refine wpList_store_mid rfl 25 _ _ rfl (w5.heap.size) 0 VQ.toArray rfl rfl ht (by simpa using HI_VQ.out) HO_VQ.out ?_))))
  have HK6 := Lib.hid (HK5.out.put 25 ([.int .i64 0, .int .i64 0, .int .i64 0, .int .i64 0, .int .i64 0, .bool false, .bool false, .int .u8 0, .int .u8 0, .int .u8 0, .int .u8 0, .int .u8 0, .int .u8 0, .int .u8 0, .int .u8 0, .string ⟨#[]⟩, .string ⟨#[]⟩] : List Value).toArray VQ (by have := HL_VQ.out; simp; omega))
  clear ht HK5
  generalize (w5.alloc (.cells ([.int .i64 0, .int .i64 0, .int .i64 0, .int .i64 0, .int .i64 0, .bool false, .bool false, .int .u8 0, .int .u8 0, .int .u8 0, .int .u8 0, .int .u8 0, .int .u8 0, .int .u8 0, .int .u8 0, .string ⟨#[]⟩, .string ⟨#[]⟩] : List Value).toArray 25)).setCells w5.heap.size 0 VQ = w6 at *
  generalize w5.heap.size = g9 at *
  go_upto_region 11 with (fail)
  have hr0 := HK6.out.hd.range
  go_wp2_with (((with_reducible (change wpList _ _ _ _ _ _)); ((refine wpList_load_mid rfl 25 _ rfl (g9) 0 rfl (VQ) _ hr0 Try.underlying25 rfl HI_VQ.out ?_))))
  clear hr0
  refine (CB.out _).mono ?_
  rintro e w7 ⟨rfl, bb⟩
  have HK7 := Lib.hid (HK6.out.below bb (Nat.le_refl _))
  clear bb HK6
  go_upto_region 12 with (fail)
  have c2 : w7.cell? ⟨g7, 2, none⟩ = some (.int .i64 p.hop) := HK7.out.tl.hd.at HC_VP_2.out
  have c36 : w7.cell? ⟨g7, 36, none⟩ = some (.bool true) := HK7.out.tl.hd.at HC_VP_36.out
  have c38 : w7.cell? ⟨g7, 38, none⟩ = some (.int .i64 p.pl) := HK7.out.tl.hd.at HC_VP_38.out
  have c39 : w7.cell? ⟨g7, 39, none⟩ = some (.bool false) := HK7.out.tl.hd.at HC_VP_39.out
  have c41 : w7.cell? ⟨g7, 41, none⟩ = some (.string p.data) := HK7.out.tl.hd.at HC_VP_41.out
  have d1 : w7.cell? ⟨g9, 1, none⟩ = some (.int .i64 (p.id % 65536)) := HK7.out.hd.at HC_VQ_1.out
  have d2 : w7.cell? ⟨g9, 2, none⟩ = some (.int .i64 (p.hop - 1)) := HK7.out.hd.at HC_VQ_2.out
  have d4 : w7.cell? ⟨g9, 4, none⟩ = some (.int .i64 p.pl) := HK7.out.hd.at HC_VQ_4.out
  have d5 : w7.cell? ⟨g9, 5, none⟩ = some (.bool false) := HK7.out.hd.at HC_VQ_5.out
  have d6 : w7.cell? ⟨g9, 6, none⟩ = some (.bool false) := HK7.out.hd.at HC_VQ_6.out
  have d15 : w7.cell? ⟨g9, 15, none⟩ = some (.string ⟨#[]⟩) := HK7.out.hd.at HC_VQ_15.out
  have d16 : w7.cell? ⟨g9, 16, none⟩ = some (.string p.data) := HK7.out.hd.at HC_VQ_16.out
  obtain ⟨kw, hg, hg2, hlen⟩ := HNUM.out
  go_wp2_with (fail)
  go_ret
  refine ⟨?_, HK7.out.2.1⟩
  first | rfl | (simp; done) | (simp; omega)
set_option maxRecDepth 100000 in
set_option maxHeartbeats 4000000 in
theorem goes64_small (s : ByteArray) (f0 f1 f2 f3 t0 t1 t2 t3 id : Int) (w : World) (ii : 0 ≤ id ∧ id ≤ 65535) (hs : ¬ (70000 : Int) < (s.size : Int)) (hc : pcode s = 0) (hh : hcode64 (ppkt s) id = 0) (hf : (ppkt s).frag = false) (hz : ((ppkt s).data.size : Int) ≤ 1240) :
    Calls Try.prog 5 #[.string s, .agg ([.int .u8 f0, .int .u8 f1, .int .u8 f2, .int .u8 f3] : List Value).toArray, .agg ([.int .u8 t0, .int .u8 t1, .int .u8 t2, .int .u8 t3] : List Value).toArray, .int .u16 id] w (fun e w' => e = .returned (.bool true) ∧ Below w.heap.size w w') := by
  have CP := Lib.hid (fun W => parse_ok s W (by omega) hc)
  have P := parsed s hc
  clear hc
  generalize ppkt s = p at *
  obtain ⟨hl, hd, _⟩ := P.small
  have kid : IntKind.i64.wrap id = id := IntWalk.i64_in _ (by omega)
  have hq : h64 p f0 f1 f2 f3 t0 t1 t2 t3 id = ⟨p.cls, id, p.hop - 1, pr64 p.proto, 0, false, false, f0, f1, f2, f3, t0, t1, t2, t3, ⟨#[]⟩, p.data⟩ := by unfold h64; rw [hf, if_neg (by simp), if_pos (by omega), if_neg (by simp), show decide (1240 < p.data.size) = false by rw [decide_eq_false_iff_not]; omega]; rfl
  have hwq := h64_why (f0 := f0) (f1 := f1) (f2 := f2) (f3 := f3) (t0 := t0) (t1 := t1) (t2 := t2) (t3 := t3) (why_of P.ok) hh
  have hbz := h64_size (p := p) (f0 := f0) (f1 := f1) (f2 := f2) (f3 := f3) (t0 := t0) (t1 := t1) (t2 := t2) (t3 := t3) (id := id)
  obtain ⟨a0, a1, _⟩ := hcode64_ok hh
  obtain ⟨VQ, hVQ⟩ : ∃ V, V = (h64 p f0 f1 f2 f3 t0 t1 t2 t3 id).vals := ⟨_, rfl⟩
  have CH : Hid (∀ (W : World) (v : Value), Exs W v p.exts → Calls Try.prog 9 #[.agg (p.vals v).toArray, .agg ([.int .u8 f0, .int .u8 f1, .int .u8 f2, .int .u8 f3] : List Value).toArray, .agg ([.int .u8 t0, .int .u8 t1, .int .u8 t2, .int .u8 t3] : List Value).toArray, .int .i64 id] W fun e w' =>  e = .returned (.tuple #[.agg VQ.toArray, .nilIface]) ∧ Below W.heap.size W w') := Lib.hid (fun W v hx => by
    refine (head64_any p v f0 f1 f2 f3 t0 t1 t2 t3 id W hx (by omega) (by omega)).mono ?_
    rintro e w' ⟨q, rfl, her, b⟩
    rcases her with ⟨_, rfl⟩ | ⟨h, _⟩
    · exact ⟨by rw [hVQ, hout64_ok hh], b⟩
    · exact absurd hh h)
  obtain ⟨qb, hqb⟩ : ∃ b, b = (h64 p f0 f1 f2 f3 t0 t1 t2 t3 id).bytes := ⟨_, rfl⟩
  rw [← hqb] at hbz
  have CB : Hid (∀ W, Calls Try.prog 20 #[.agg VQ.toArray] W fun e w' => e = .returned (.tuple #[.string qb, .nilIface]) ∧ Below W.heap.size W w') := Lib.hid (fun W => by rw [hVQ, hqb]; exact P4.bytes_ok _ W hwq)
  have HC_VQ_1 : Hid (VQ[1]? = some (.int .i64 id)) := Lib.hid (by rw [hVQ, hq]; rfl)
  have HC_VQ_2 : Hid (VQ[2]? = some (.int .i64 (p.hop - 1))) := Lib.hid (by rw [hVQ, hq]; rfl)
  have HC_VQ_4 : Hid (VQ[4]? = some (.int .i64 0)) := Lib.hid (by rw [hVQ, hq]; rfl)
  have HC_VQ_5 : Hid (VQ[5]? = some (.bool false)) := Lib.hid (by rw [hVQ, hq]; rfl)
  have HC_VQ_6 : Hid (VQ[6]? = some (.bool false)) := Lib.hid (by rw [hVQ, hq]; rfl)
  have HC_VQ_15 : Hid (VQ[15]? = some (.string ⟨#[]⟩)) := Lib.hid (by rw [hVQ, hq]; rfl)
  have HC_VQ_16 : Hid (VQ[16]? = some (.string p.data)) := Lib.hid (by rw [hVQ, hq]; rfl)
  have HI_VQ : Hid ((Try.prog.info? 25).map (·.size) = some VQ.length) := Lib.hid (by rw [hVQ]; exact P4.Try.infoIp _)
  have HO_VQ : Hid ((VQ).toArray.all (·.oneCell') = true) := Lib.hid (by rw [hVQ]; exact P4.vals_one _)
  have HL_VQ : Hid (VQ.length = 17) := Lib.hid (by rw [hVQ]; rfl)
  have kw : IntKind.i64.wrap (p.hop - 1) = p.hop - 1 := IntWalk.i64_in _ (by omega)
  have hg : (0 : Int) < p.hop - 1 := by omega
  have hg2 : (1 : Int) < p.hop := by omega
  have hlen : ¬ (1260 : Int) < (qb.size : Int) := by omega
  obtain ⟨hm, hp0⟩ := piece_whole P.ok.piece hf
  have HNUM := Lib.hid (And.intro kw (And.intro hg (And.intro hg2 hlen)))
  have HFM := Lib.hid (And.intro hf (And.intro hm hp0))
  clear kw hg hg2 hlen hbz hqb hwq hq hVQ hh P hl a0 a1 hf hm hp0 hz
  have HI_VF : Hid ((Try.prog.info? 23).map (·.size) = some (([.int .u8 f0, .int .u8 f1, .int .u8 f2, .int .u8 f3] : List Value)).length) := Lib.hid (Try.infoV4c _ _ _ _)
  have HI_VT : Hid ((Try.prog.info? 23).map (·.size) = some (([.int .u8 t0, .int .u8 t1, .int .u8 t2, .int .u8 t3] : List Value)).length) := Lib.hid (Try.infoV4c _ _ _ _)
  have HK1 : Hid (Kp w w.heap.size [(w.heap.size + 1, 23, ([.int .u8 t0, .int .u8 t1, .int .u8 t2, .int .u8 t3] : List Value)), (w.heap.size, 23, ([.int .u8 f0, .int .u8 f1, .int .u8 f2, .int .u8 f3] : List Value))] ((w.alloc (.cells ([.int .u8 f0, .int .u8 f1, .int .u8 f2, .int .u8 f3] : List Value).toArray 23)).alloc (.cells ([.int .u8 t0, .int .u8 t1, .int .u8 t2, .int .u8 t3] : List Value).toArray 23))) := Lib.hid (by
    have h := (Kp.start w).new 23 ([.int .u8 f0, .int .u8 f1, .int .u8 f2, .int .u8 f3] : List Value)
    have e1 : (w.alloc (.cells ([.int .u8 f0, .int .u8 f1, .int .u8 f2, .int .u8 f3] : List Value).toArray 23)).heap.size = w.heap.size + 1 := by simp
    have h2 := h.new 23 ([.int .u8 t0, .int .u8 t1, .int .u8 t2, .int .u8 t3] : List Value)
    rwa [e1] at h2)
  generalize ([.int .u8 f0, .int .u8 f1, .int .u8 f2, .int .u8 f3] : List Value) = VF at *
  generalize ([.int .u8 t0, .int .u8 t1, .int .u8 t2, .int .u8 t3] : List Value) = VT at *
  generalize hw1 : (w.alloc (.cells VF.toArray 23)).alloc (.cells VT.toArray 23) = w1 at *
  go_enter Try.func5, Try.ntmps5
  go_upto_region 1 with (fail)
  clear hw1
  go_wp2_with (fail)
  refine (awake64_true _).mono ?_
  rintro e w2 ⟨rfl, bb⟩
  have HK2 := Lib.hid (HK1.out.below bb (Nat.le_refl _))
  clear bb HK1
  go_wp2_with (fail)
  refine (CP.out _).mono ?_
  rintro e w3 ⟨v, rfl, own, bb⟩
  have HK3 := Lib.hid (HK2.out.below bb (Nat.le_refl _))
  have HX3 := Lib.hid (exs_own own)
  have hv1 := own_one own
  clear bb own HK2
  obtain ⟨VP, hVP⟩ : ∃ V, V = p.vals v := ⟨_, rfl⟩
  rw [← hVP]
  have HI_VP : Hid ((Try.prog.info? 35).map (·.size) = some (VP).length) := Lib.hid (by rw [hVP]; exact Try.info6 _ _)
  have HO_VP : Hid ((VP).toArray.all (·.oneCell') = true) := Lib.hid (by rw [hVP]; exact vals_one _ _ hv1)
  have HL_VP : Hid ((VP).length = 42) := Lib.hid (by rw [hVP]; exact vals_len _ _)
  have HC_VP_2 : Hid (VP[2]? = some (.int .i64 p.hop)) := Lib.hid (by rw [hVP]; rfl)
  have HC_VP_36 : Hid (VP[36]? = some (.bool false)) := Lib.hid (by rw [hVP]; rw [← HFM.out.1]; exact vals_tail p v 1)
  have HC_VP_38 : Hid (VP[38]? = some (.int .i64 0)) := Lib.hid (by rw [hVP]; rw [← HFM.out.2.2]; exact vals_tail p v 3)
  have HC_VP_39 : Hid (VP[39]? = some (.bool false)) := Lib.hid (by rw [hVP]; rw [← HFM.out.2.1]; exact vals_tail p v 4)
  have HC_VP_41 : Hid (VP[41]? = some (.string p.data)) := Lib.hid (by rw [hVP]; exact vals_tail p v 6)
  have CHv := Lib.hid (fun W h => CH.out W v h)
  rw [← hVP] at CHv
  clear CH hVP hv1 CP
  have hbp := below_sets VP (Nat.le_refl w3.heap.size) 0 _ ((Below.refl w3.heap.size w3).alloc (Nat.le_refl _) (.cells ([.int .i64 0, .int .i64 0, .int .i64 0, .int .u8 0, .int .u8 0, .int .u8 0, .int .u8 0, .int .u8 0, .int .u8 0, .int .u8 0, .int .u8 0, .int .u8 0, .int .u8 0, .int .u8 0, .int .u8 0, .int .u8 0, .int .u8 0, .int .u8 0, .int .u8 0, .int .u8 0, .int .u8 0, .int .u8 0, .int .u8 0, .int .u8 0, .int .u8 0, .int .u8 0, .int .u8 0, .int .u8 0, .int .u8 0, .int .u8 0, .int .u8 0, .int .u8 0, .int .u8 0, .int .u8 0, .int .u8 0, .slice none 0 0, .bool false, .int .u32 0, .int .i64 0, .bool false, .int .i64 0, .string ⟨#[]⟩] : List Value).toArray 35))
  have HX4 := Lib.hid (HX3.out.below hbp (Nat.le_refl _))
  clear hbp HX3
  have ht := (bk_new w3 35 ([.int .i64 0, .int .i64 0, .int .i64 0, .int .u8 0, .int .u8 0, .int .u8 0, .int .u8 0, .int .u8 0, .int .u8 0, .int .u8 0, .int .u8 0, .int .u8 0, .int .u8 0, .int .u8 0, .int .u8 0, .int .u8 0, .int .u8 0, .int .u8 0, .int .u8 0, .int .u8 0, .int .u8 0, .int .u8 0, .int .u8 0, .int .u8 0, .int .u8 0, .int .u8 0, .int .u8 0, .int .u8 0, .int .u8 0, .int .u8 0, .int .u8 0, .int .u8 0, .int .u8 0, .int .u8 0, .int .u8 0, .slice none 0 0, .bool false, .int .u32 0, .int .i64 0, .bool false, .int .i64 0, .string ⟨#[]⟩] : List Value).toArray).there VP.toArray.size (by have := HL_VP.out; simp; omega)
  go_upto_region 6 with (((with_reducible (change wpList _ _ _ _ _ _)); ((refine wpList_store_mid rfl 35 _ _ rfl (w3.heap.size) 0 VP.toArray rfl rfl ht (by simpa using HI_VP.out) HO_VP.out ?_))))
  have HK4 := Lib.hid (HK3.out.put 35 ([.int .i64 0, .int .i64 0, .int .i64 0, .int .u8 0, .int .u8 0, .int .u8 0, .int .u8 0, .int .u8 0, .int .u8 0, .int .u8 0, .int .u8 0, .int .u8 0, .int .u8 0, .int .u8 0, .int .u8 0, .int .u8 0, .int .u8 0, .int .u8 0, .int .u8 0, .int .u8 0, .int .u8 0, .int .u8 0, .int .u8 0, .int .u8 0, .int .u8 0, .int .u8 0, .int .u8 0, .int .u8 0, .int .u8 0, .int .u8 0, .int .u8 0, .int .u8 0, .int .u8 0, .int .u8 0, .int .u8 0, .slice none 0 0, .bool false, .int .u32 0, .int .i64 0, .bool false, .int .i64 0, .string ⟨#[]⟩] : List Value).toArray VP (by have := HL_VP.out; simp; omega))
  clear ht HK3
  generalize (w3.alloc (.cells ([.int .i64 0, .int .i64 0, .int .i64 0, .int .u8 0, .int .u8 0, .int .u8 0, .int .u8 0, .int .u8 0, .int .u8 0, .int .u8 0, .int .u8 0, .int .u8 0, .int .u8 0, .int .u8 0, .int .u8 0, .int .u8 0, .int .u8 0, .int .u8 0, .int .u8 0, .int .u8 0, .int .u8 0, .int .u8 0, .int .u8 0, .int .u8 0, .int .u8 0, .int .u8 0, .int .u8 0, .int .u8 0, .int .u8 0, .int .u8 0, .int .u8 0, .int .u8 0, .int .u8 0, .int .u8 0, .int .u8 0, .slice none 0 0, .bool false, .int .u32 0, .int .i64 0, .bool false, .int .i64 0, .string ⟨#[]⟩] : List Value).toArray 35)).setCells w3.heap.size 0 VP = w4 at *
  generalize w3.heap.size = g7 at *
  go_upto_region 8 with (fail)
  have hr0 := HK4.out.hd.range
  have hr1 := HK4.out.tl.tl.hd.range
  have hr2 := HK4.out.tl.hd.range
  go_wp2_with (((with_reducible (change wpList _ _ _ _ _ _)); (first | (refine wpList_load_mid rfl 35 _ rfl (g7) 0 rfl (VP) _ hr0 Try.underlying35 rfl HI_VP.out ?_) | (refine wpList_load_mid rfl 23 _ rfl (w.heap.size) 0 rfl (VF) _ hr1 Try.underlying23 rfl HI_VF.out ?_) | (refine wpList_load_mid rfl 23 _ rfl (w.heap.size + 1) 0 rfl (VT) _ hr2 Try.underlying23 rfl HI_VT.out ?_))))
  clear hr0 hr1 hr2
  refine (CHv.out _ HX4.out).mono ?_
  rintro e w5 ⟨rfl, bb⟩
  have HK5 := Lib.hid (HK4.out.below bb (Nat.le_refl _))
  clear bb HK4
  have ht := (bk_new w5 25 ([.int .i64 0, .int .i64 0, .int .i64 0, .int .i64 0, .int .i64 0, .bool false, .bool false, .int .u8 0, .int .u8 0, .int .u8 0, .int .u8 0, .int .u8 0, .int .u8 0, .int .u8 0, .int .u8 0, .string ⟨#[]⟩, .string ⟨#[]⟩] : List Value).toArray).there VQ.toArray.size (by have := HL_VQ.out; simp; omega)
  go_upto_region 9 with (((with_reducible (change wpList _ _ _ _ _ _)); ((refine wpList_store_mid rfl 25 _ _ rfl (w5.heap.size) 0 VQ.toArray rfl rfl ht (by simpa using HI_VQ.out) HO_VQ.out ?_))))
  have HK6 := Lib.hid (HK5.out.put 25 ([.int .i64 0, .int .i64 0, .int .i64 0, .int .i64 0, .int .i64 0, .bool false, .bool false, .int .u8 0, .int .u8 0, .int .u8 0, .int .u8 0, .int .u8 0, .int .u8 0, .int .u8 0, .int .u8 0, .string ⟨#[]⟩, .string ⟨#[]⟩] : List Value).toArray VQ (by have := HL_VQ.out; simp; omega))
  clear ht HK5
  generalize (w5.alloc (.cells ([.int .i64 0, .int .i64 0, .int .i64 0, .int .i64 0, .int .i64 0, .bool false, .bool false, .int .u8 0, .int .u8 0, .int .u8 0, .int .u8 0, .int .u8 0, .int .u8 0, .int .u8 0, .int .u8 0, .string ⟨#[]⟩, .string ⟨#[]⟩] : List Value).toArray 25)).setCells w5.heap.size 0 VQ = w6 at *
  generalize w5.heap.size = g9 at *
  go_upto_region 11 with (fail)
  have hr0 := HK6.out.hd.range
  go_wp2_with (((with_reducible (change wpList _ _ _ _ _ _)); ((refine wpList_load_mid rfl 25 _ rfl (g9) 0 rfl (VQ) _ hr0 Try.underlying25 rfl HI_VQ.out ?_))))
  clear hr0
  refine (CB.out _).mono ?_
  rintro e w7 ⟨rfl, bb⟩
  have HK7 := Lib.hid (HK6.out.below bb (Nat.le_refl _))
  clear bb HK6
  go_upto_region 12 with (fail)
  have c2 : w7.cell? ⟨g7, 2, none⟩ = some (.int .i64 p.hop) := HK7.out.tl.hd.at HC_VP_2.out
  have c36 : w7.cell? ⟨g7, 36, none⟩ = some (.bool false) := HK7.out.tl.hd.at HC_VP_36.out
  have c38 : w7.cell? ⟨g7, 38, none⟩ = some (.int .i64 0) := HK7.out.tl.hd.at HC_VP_38.out
  have c39 : w7.cell? ⟨g7, 39, none⟩ = some (.bool false) := HK7.out.tl.hd.at HC_VP_39.out
  have c41 : w7.cell? ⟨g7, 41, none⟩ = some (.string p.data) := HK7.out.tl.hd.at HC_VP_41.out
  have d1 : w7.cell? ⟨g9, 1, none⟩ = some (.int .i64 id) := HK7.out.hd.at HC_VQ_1.out
  have d2 : w7.cell? ⟨g9, 2, none⟩ = some (.int .i64 (p.hop - 1)) := HK7.out.hd.at HC_VQ_2.out
  have d4 : w7.cell? ⟨g9, 4, none⟩ = some (.int .i64 0) := HK7.out.hd.at HC_VQ_4.out
  have d5 : w7.cell? ⟨g9, 5, none⟩ = some (.bool false) := HK7.out.hd.at HC_VQ_5.out
  have d6 : w7.cell? ⟨g9, 6, none⟩ = some (.bool false) := HK7.out.hd.at HC_VQ_6.out
  have d15 : w7.cell? ⟨g9, 15, none⟩ = some (.string ⟨#[]⟩) := HK7.out.hd.at HC_VQ_15.out
  have d16 : w7.cell? ⟨g9, 16, none⟩ = some (.string p.data) := HK7.out.hd.at HC_VQ_16.out
  obtain ⟨kw, hg, hg2, hlen⟩ := HNUM.out
  go_wp2_with (fail)
  go_ret
  refine ⟨?_, HK7.out.2.1⟩
  first | rfl | (simp; done) | (simp; omega)
set_option maxRecDepth 100000 in
set_option maxHeartbeats 4000000 in
theorem goes64_big (s : ByteArray) (f0 f1 f2 f3 t0 t1 t2 t3 id : Int) (w : World) (ii : 0 ≤ id ∧ id ≤ 65535) (hs : ¬ (70000 : Int) < (s.size : Int)) (hc : pcode s = 0) (hh : hcode64 (ppkt s) id = 0) (hf : (ppkt s).frag = false) (hz : ¬ ((ppkt s).data.size : Int) ≤ 1240) :
    Calls Try.prog 5 #[.string s, .agg ([.int .u8 f0, .int .u8 f1, .int .u8 f2, .int .u8 f3] : List Value).toArray, .agg ([.int .u8 t0, .int .u8 t1, .int .u8 t2, .int .u8 t3] : List Value).toArray, .int .u16 id] w (fun e w' => e = .returned (.bool true) ∧ Below w.heap.size w w') := by
  have CP := Lib.hid (fun W => parse_ok s W (by omega) hc)
  have P := parsed s hc
  clear hc
  generalize ppkt s = p at *
  obtain ⟨hl, hd, _⟩ := P.small
  have kid : IntKind.i64.wrap id = id := IntWalk.i64_in _ (by omega)
  have hq : h64 p f0 f1 f2 f3 t0 t1 t2 t3 id = ⟨p.cls, 0, p.hop - 1, pr64 p.proto, 0, true, false, f0, f1, f2, f3, t0, t1, t2, t3, ⟨#[]⟩, p.data⟩ := by unfold h64; rw [hf, if_neg (by simp), if_neg (by omega), if_neg (by simp), show decide (1240 < p.data.size) = true by rw [decide_eq_true_iff]; omega]; rfl
  have hwq := h64_why (f0 := f0) (f1 := f1) (f2 := f2) (f3 := f3) (t0 := t0) (t1 := t1) (t2 := t2) (t3 := t3) (why_of P.ok) hh
  have hbz := h64_size (p := p) (f0 := f0) (f1 := f1) (f2 := f2) (f3 := f3) (t0 := t0) (t1 := t1) (t2 := t2) (t3 := t3) (id := id)
  obtain ⟨a0, a1, _⟩ := hcode64_ok hh
  obtain ⟨VQ, hVQ⟩ : ∃ V, V = (h64 p f0 f1 f2 f3 t0 t1 t2 t3 id).vals := ⟨_, rfl⟩
  have CH : Hid (∀ (W : World) (v : Value), Exs W v p.exts → Calls Try.prog 9 #[.agg (p.vals v).toArray, .agg ([.int .u8 f0, .int .u8 f1, .int .u8 f2, .int .u8 f3] : List Value).toArray, .agg ([.int .u8 t0, .int .u8 t1, .int .u8 t2, .int .u8 t3] : List Value).toArray, .int .i64 id] W fun e w' =>  e = .returned (.tuple #[.agg VQ.toArray, .nilIface]) ∧ Below W.heap.size W w') := Lib.hid (fun W v hx => by
    refine (head64_any p v f0 f1 f2 f3 t0 t1 t2 t3 id W hx (by omega) (by omega)).mono ?_
    rintro e w' ⟨q, rfl, her, b⟩
    rcases her with ⟨_, rfl⟩ | ⟨h, _⟩
    · exact ⟨by rw [hVQ, hout64_ok hh], b⟩
    · exact absurd hh h)
  obtain ⟨qb, hqb⟩ : ∃ b, b = (h64 p f0 f1 f2 f3 t0 t1 t2 t3 id).bytes := ⟨_, rfl⟩
  rw [← hqb] at hbz
  have CB : Hid (∀ W, Calls Try.prog 20 #[.agg VQ.toArray] W fun e w' => e = .returned (.tuple #[.string qb, .nilIface]) ∧ Below W.heap.size W w') := Lib.hid (fun W => by rw [hVQ, hqb]; exact P4.bytes_ok _ W hwq)
  have HC_VQ_1 : Hid (VQ[1]? = some (.int .i64 0)) := Lib.hid (by rw [hVQ, hq]; rfl)
  have HC_VQ_2 : Hid (VQ[2]? = some (.int .i64 (p.hop - 1))) := Lib.hid (by rw [hVQ, hq]; rfl)
  have HC_VQ_4 : Hid (VQ[4]? = some (.int .i64 0)) := Lib.hid (by rw [hVQ, hq]; rfl)
  have HC_VQ_5 : Hid (VQ[5]? = some (.bool true)) := Lib.hid (by rw [hVQ, hq]; rfl)
  have HC_VQ_6 : Hid (VQ[6]? = some (.bool false)) := Lib.hid (by rw [hVQ, hq]; rfl)
  have HC_VQ_15 : Hid (VQ[15]? = some (.string ⟨#[]⟩)) := Lib.hid (by rw [hVQ, hq]; rfl)
  have HC_VQ_16 : Hid (VQ[16]? = some (.string p.data)) := Lib.hid (by rw [hVQ, hq]; rfl)
  have HI_VQ : Hid ((Try.prog.info? 25).map (·.size) = some VQ.length) := Lib.hid (by rw [hVQ]; exact P4.Try.infoIp _)
  have HO_VQ : Hid ((VQ).toArray.all (·.oneCell') = true) := Lib.hid (by rw [hVQ]; exact P4.vals_one _)
  have HL_VQ : Hid (VQ.length = 17) := Lib.hid (by rw [hVQ]; rfl)
  have kw : IntKind.i64.wrap (p.hop - 1) = p.hop - 1 := IntWalk.i64_in _ (by omega)
  have hg : (0 : Int) < p.hop - 1 := by omega
  have hg2 : (1 : Int) < p.hop := by omega
  have hlen : (1260 : Int) < (qb.size : Int) := by omega
  obtain ⟨hm, hp0⟩ := piece_whole P.ok.piece hf
  have HNUM := Lib.hid (And.intro kw (And.intro hg (And.intro hg2 hlen)))
  have HFM := Lib.hid (And.intro hf (And.intro hm hp0))
  clear kw hg hg2 hlen hbz hqb hwq hq hVQ hh P hl a0 a1 hf hm hp0 hz
  have HI_VF : Hid ((Try.prog.info? 23).map (·.size) = some (([.int .u8 f0, .int .u8 f1, .int .u8 f2, .int .u8 f3] : List Value)).length) := Lib.hid (Try.infoV4c _ _ _ _)
  have HI_VT : Hid ((Try.prog.info? 23).map (·.size) = some (([.int .u8 t0, .int .u8 t1, .int .u8 t2, .int .u8 t3] : List Value)).length) := Lib.hid (Try.infoV4c _ _ _ _)
  have HK1 : Hid (Kp w w.heap.size [(w.heap.size + 1, 23, ([.int .u8 t0, .int .u8 t1, .int .u8 t2, .int .u8 t3] : List Value)), (w.heap.size, 23, ([.int .u8 f0, .int .u8 f1, .int .u8 f2, .int .u8 f3] : List Value))] ((w.alloc (.cells ([.int .u8 f0, .int .u8 f1, .int .u8 f2, .int .u8 f3] : List Value).toArray 23)).alloc (.cells ([.int .u8 t0, .int .u8 t1, .int .u8 t2, .int .u8 t3] : List Value).toArray 23))) := Lib.hid (by
    have h := (Kp.start w).new 23 ([.int .u8 f0, .int .u8 f1, .int .u8 f2, .int .u8 f3] : List Value)
    have e1 : (w.alloc (.cells ([.int .u8 f0, .int .u8 f1, .int .u8 f2, .int .u8 f3] : List Value).toArray 23)).heap.size = w.heap.size + 1 := by simp
    have h2 := h.new 23 ([.int .u8 t0, .int .u8 t1, .int .u8 t2, .int .u8 t3] : List Value)
    rwa [e1] at h2)
  generalize ([.int .u8 f0, .int .u8 f1, .int .u8 f2, .int .u8 f3] : List Value) = VF at *
  generalize ([.int .u8 t0, .int .u8 t1, .int .u8 t2, .int .u8 t3] : List Value) = VT at *
  generalize hw1 : (w.alloc (.cells VF.toArray 23)).alloc (.cells VT.toArray 23) = w1 at *
  go_enter Try.func5, Try.ntmps5
  go_upto_region 1 with (fail)
  clear hw1
  go_wp2_with (fail)
  refine (awake64_true _).mono ?_
  rintro e w2 ⟨rfl, bb⟩
  have HK2 := Lib.hid (HK1.out.below bb (Nat.le_refl _))
  clear bb HK1
  go_wp2_with (fail)
  refine (CP.out _).mono ?_
  rintro e w3 ⟨v, rfl, own, bb⟩
  have HK3 := Lib.hid (HK2.out.below bb (Nat.le_refl _))
  have HX3 := Lib.hid (exs_own own)
  have hv1 := own_one own
  clear bb own HK2
  obtain ⟨VP, hVP⟩ : ∃ V, V = p.vals v := ⟨_, rfl⟩
  rw [← hVP]
  have HI_VP : Hid ((Try.prog.info? 35).map (·.size) = some (VP).length) := Lib.hid (by rw [hVP]; exact Try.info6 _ _)
  have HO_VP : Hid ((VP).toArray.all (·.oneCell') = true) := Lib.hid (by rw [hVP]; exact vals_one _ _ hv1)
  have HL_VP : Hid ((VP).length = 42) := Lib.hid (by rw [hVP]; exact vals_len _ _)
  have HC_VP_2 : Hid (VP[2]? = some (.int .i64 p.hop)) := Lib.hid (by rw [hVP]; rfl)
  have HC_VP_36 : Hid (VP[36]? = some (.bool false)) := Lib.hid (by rw [hVP]; rw [← HFM.out.1]; exact vals_tail p v 1)
  have HC_VP_38 : Hid (VP[38]? = some (.int .i64 0)) := Lib.hid (by rw [hVP]; rw [← HFM.out.2.2]; exact vals_tail p v 3)
  have HC_VP_39 : Hid (VP[39]? = some (.bool false)) := Lib.hid (by rw [hVP]; rw [← HFM.out.2.1]; exact vals_tail p v 4)
  have HC_VP_41 : Hid (VP[41]? = some (.string p.data)) := Lib.hid (by rw [hVP]; exact vals_tail p v 6)
  have CHv := Lib.hid (fun W h => CH.out W v h)
  rw [← hVP] at CHv
  clear CH hVP hv1 CP
  have hbp := below_sets VP (Nat.le_refl w3.heap.size) 0 _ ((Below.refl w3.heap.size w3).alloc (Nat.le_refl _) (.cells ([.int .i64 0, .int .i64 0, .int .i64 0, .int .u8 0, .int .u8 0, .int .u8 0, .int .u8 0, .int .u8 0, .int .u8 0, .int .u8 0, .int .u8 0, .int .u8 0, .int .u8 0, .int .u8 0, .int .u8 0, .int .u8 0, .int .u8 0, .int .u8 0, .int .u8 0, .int .u8 0, .int .u8 0, .int .u8 0, .int .u8 0, .int .u8 0, .int .u8 0, .int .u8 0, .int .u8 0, .int .u8 0, .int .u8 0, .int .u8 0, .int .u8 0, .int .u8 0, .int .u8 0, .int .u8 0, .int .u8 0, .slice none 0 0, .bool false, .int .u32 0, .int .i64 0, .bool false, .int .i64 0, .string ⟨#[]⟩] : List Value).toArray 35))
  have HX4 := Lib.hid (HX3.out.below hbp (Nat.le_refl _))
  clear hbp HX3
  have ht := (bk_new w3 35 ([.int .i64 0, .int .i64 0, .int .i64 0, .int .u8 0, .int .u8 0, .int .u8 0, .int .u8 0, .int .u8 0, .int .u8 0, .int .u8 0, .int .u8 0, .int .u8 0, .int .u8 0, .int .u8 0, .int .u8 0, .int .u8 0, .int .u8 0, .int .u8 0, .int .u8 0, .int .u8 0, .int .u8 0, .int .u8 0, .int .u8 0, .int .u8 0, .int .u8 0, .int .u8 0, .int .u8 0, .int .u8 0, .int .u8 0, .int .u8 0, .int .u8 0, .int .u8 0, .int .u8 0, .int .u8 0, .int .u8 0, .slice none 0 0, .bool false, .int .u32 0, .int .i64 0, .bool false, .int .i64 0, .string ⟨#[]⟩] : List Value).toArray).there VP.toArray.size (by have := HL_VP.out; simp; omega)
  go_upto_region 6 with (((with_reducible (change wpList _ _ _ _ _ _)); ((refine wpList_store_mid rfl 35 _ _ rfl (w3.heap.size) 0 VP.toArray rfl rfl ht (by simpa using HI_VP.out) HO_VP.out ?_))))
  have HK4 := Lib.hid (HK3.out.put 35 ([.int .i64 0, .int .i64 0, .int .i64 0, .int .u8 0, .int .u8 0, .int .u8 0, .int .u8 0, .int .u8 0, .int .u8 0, .int .u8 0, .int .u8 0, .int .u8 0, .int .u8 0, .int .u8 0, .int .u8 0, .int .u8 0, .int .u8 0, .int .u8 0, .int .u8 0, .int .u8 0, .int .u8 0, .int .u8 0, .int .u8 0, .int .u8 0, .int .u8 0, .int .u8 0, .int .u8 0, .int .u8 0, .int .u8 0, .int .u8 0, .int .u8 0, .int .u8 0, .int .u8 0, .int .u8 0, .int .u8 0, .slice none 0 0, .bool false, .int .u32 0, .int .i64 0, .bool false, .int .i64 0, .string ⟨#[]⟩] : List Value).toArray VP (by have := HL_VP.out; simp; omega))
  clear ht HK3
  generalize (w3.alloc (.cells ([.int .i64 0, .int .i64 0, .int .i64 0, .int .u8 0, .int .u8 0, .int .u8 0, .int .u8 0, .int .u8 0, .int .u8 0, .int .u8 0, .int .u8 0, .int .u8 0, .int .u8 0, .int .u8 0, .int .u8 0, .int .u8 0, .int .u8 0, .int .u8 0, .int .u8 0, .int .u8 0, .int .u8 0, .int .u8 0, .int .u8 0, .int .u8 0, .int .u8 0, .int .u8 0, .int .u8 0, .int .u8 0, .int .u8 0, .int .u8 0, .int .u8 0, .int .u8 0, .int .u8 0, .int .u8 0, .int .u8 0, .slice none 0 0, .bool false, .int .u32 0, .int .i64 0, .bool false, .int .i64 0, .string ⟨#[]⟩] : List Value).toArray 35)).setCells w3.heap.size 0 VP = w4 at *
  generalize w3.heap.size = g7 at *
  go_upto_region 8 with (fail)
  have hr0 := HK4.out.hd.range
  have hr1 := HK4.out.tl.tl.hd.range
  have hr2 := HK4.out.tl.hd.range
  go_wp2_with (((with_reducible (change wpList _ _ _ _ _ _)); (first | (refine wpList_load_mid rfl 35 _ rfl (g7) 0 rfl (VP) _ hr0 Try.underlying35 rfl HI_VP.out ?_) | (refine wpList_load_mid rfl 23 _ rfl (w.heap.size) 0 rfl (VF) _ hr1 Try.underlying23 rfl HI_VF.out ?_) | (refine wpList_load_mid rfl 23 _ rfl (w.heap.size + 1) 0 rfl (VT) _ hr2 Try.underlying23 rfl HI_VT.out ?_))))
  clear hr0 hr1 hr2
  refine (CHv.out _ HX4.out).mono ?_
  rintro e w5 ⟨rfl, bb⟩
  have HK5 := Lib.hid (HK4.out.below bb (Nat.le_refl _))
  clear bb HK4
  have ht := (bk_new w5 25 ([.int .i64 0, .int .i64 0, .int .i64 0, .int .i64 0, .int .i64 0, .bool false, .bool false, .int .u8 0, .int .u8 0, .int .u8 0, .int .u8 0, .int .u8 0, .int .u8 0, .int .u8 0, .int .u8 0, .string ⟨#[]⟩, .string ⟨#[]⟩] : List Value).toArray).there VQ.toArray.size (by have := HL_VQ.out; simp; omega)
  go_upto_region 9 with (((with_reducible (change wpList _ _ _ _ _ _)); ((refine wpList_store_mid rfl 25 _ _ rfl (w5.heap.size) 0 VQ.toArray rfl rfl ht (by simpa using HI_VQ.out) HO_VQ.out ?_))))
  have HK6 := Lib.hid (HK5.out.put 25 ([.int .i64 0, .int .i64 0, .int .i64 0, .int .i64 0, .int .i64 0, .bool false, .bool false, .int .u8 0, .int .u8 0, .int .u8 0, .int .u8 0, .int .u8 0, .int .u8 0, .int .u8 0, .int .u8 0, .string ⟨#[]⟩, .string ⟨#[]⟩] : List Value).toArray VQ (by have := HL_VQ.out; simp; omega))
  clear ht HK5
  generalize (w5.alloc (.cells ([.int .i64 0, .int .i64 0, .int .i64 0, .int .i64 0, .int .i64 0, .bool false, .bool false, .int .u8 0, .int .u8 0, .int .u8 0, .int .u8 0, .int .u8 0, .int .u8 0, .int .u8 0, .int .u8 0, .string ⟨#[]⟩, .string ⟨#[]⟩] : List Value).toArray 25)).setCells w5.heap.size 0 VQ = w6 at *
  generalize w5.heap.size = g9 at *
  go_upto_region 11 with (fail)
  have hr0 := HK6.out.hd.range
  go_wp2_with (((with_reducible (change wpList _ _ _ _ _ _)); ((refine wpList_load_mid rfl 25 _ rfl (g9) 0 rfl (VQ) _ hr0 Try.underlying25 rfl HI_VQ.out ?_))))
  clear hr0
  refine (CB.out _).mono ?_
  rintro e w7 ⟨rfl, bb⟩
  have HK7 := Lib.hid (HK6.out.below bb (Nat.le_refl _))
  clear bb HK6
  go_upto_region 12 with (fail)
  have c2 : w7.cell? ⟨g7, 2, none⟩ = some (.int .i64 p.hop) := HK7.out.tl.hd.at HC_VP_2.out
  have c36 : w7.cell? ⟨g7, 36, none⟩ = some (.bool false) := HK7.out.tl.hd.at HC_VP_36.out
  have c38 : w7.cell? ⟨g7, 38, none⟩ = some (.int .i64 0) := HK7.out.tl.hd.at HC_VP_38.out
  have c39 : w7.cell? ⟨g7, 39, none⟩ = some (.bool false) := HK7.out.tl.hd.at HC_VP_39.out
  have c41 : w7.cell? ⟨g7, 41, none⟩ = some (.string p.data) := HK7.out.tl.hd.at HC_VP_41.out
  have d1 : w7.cell? ⟨g9, 1, none⟩ = some (.int .i64 0) := HK7.out.hd.at HC_VQ_1.out
  have d2 : w7.cell? ⟨g9, 2, none⟩ = some (.int .i64 (p.hop - 1)) := HK7.out.hd.at HC_VQ_2.out
  have d4 : w7.cell? ⟨g9, 4, none⟩ = some (.int .i64 0) := HK7.out.hd.at HC_VQ_4.out
  have d5 : w7.cell? ⟨g9, 5, none⟩ = some (.bool true) := HK7.out.hd.at HC_VQ_5.out
  have d6 : w7.cell? ⟨g9, 6, none⟩ = some (.bool false) := HK7.out.hd.at HC_VQ_6.out
  have d15 : w7.cell? ⟨g9, 15, none⟩ = some (.string ⟨#[]⟩) := HK7.out.hd.at HC_VQ_15.out
  have d16 : w7.cell? ⟨g9, 16, none⟩ = some (.string p.data) := HK7.out.hd.at HC_VQ_16.out
  obtain ⟨kw, hg, hg2, hlen⟩ := HNUM.out
  go_wp2_with (fail)
  go_ret
  refine ⟨?_, HK7.out.2.1⟩
  first | rfl | (simp; done) | (simp; omega)
theorem head64Goes_any (s : ByteArray) (F T : List Int) (id : Int) (w : World) (hF : F.length = 4) (hT : T.length = 4) (ii : (Lit.int .u16 id).wf = true) :
    Calls Try.prog 5 #[.string s, .agg (F.map (Value.int .u8)).toArray, .agg (T.map (Value.int .u8)).toArray, .int .u16 id] w (fun e w' => e = .returned (.bool true) ∧ Below w.heap.size w w') := by
  have ii : 0 ≤ id ∧ id ≤ 65535 := by simpa [Lit.wf, IntKind.min, IntKind.max, IntKind.signed, IntKind.bits] using ii
  obtain ⟨f0, f1, f2, f3, rfl⟩ := four_of hF
  obtain ⟨t0, t1, t2, t3, rfl⟩ := four_of hT
  by_cases hs : (70000 : Int) < (s.size : Int)
  · exact goes64_long s f0 f1 f2 f3 t0 t1 t2 t3 id w hs
  by_cases hc : pcode s = 0
  · by_cases hh : hcode64 (ppkt s) id = 0
    · cases hf : (ppkt s).frag
      · by_cases hz : ((ppkt s).data.size : Int) ≤ 1240
        · exact goes64_small s f0 f1 f2 f3 t0 t1 t2 t3 id w ii hs hc hh hf hz
        · exact goes64_big s f0 f1 f2 f3 t0 t1 t2 t3 id w ii hs hc hh hf hz
      · cases hm : (ppkt s).more
        · exact goes64_fa s f0 f1 f2 f3 t0 t1 t2 t3 id w ii hs hc hh hf hm
        · exact goes64_fm s f0 f1 f2 f3 t0 t1 t2 t3 id w ii hs hc hh hf hm
    · exact goes64_bad s f0 f1 f2 f3 t0 t1 t2 t3 id w ii hs hc hh
  · exact goes64_none s f0 f1 f2 f3 t0 t1 t2 t3 id w hs hc
end Go.Proofs.Ytkihhmnlefekoaa
