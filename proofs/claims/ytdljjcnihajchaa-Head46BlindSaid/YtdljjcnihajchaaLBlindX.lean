/-
  Proved here: the law Head46Blind answers true of what is too long; the packets that it makes, plainly.
  Conditions: none.
  Proved here: the law Head46Blind answers true (case A).
  Conditions: none.
  Proved here: the law Head46Blind answers true (case B).
  Conditions: none.
  Proved here: the law Head46Blind answers true (case C).
  Conditions: none.
-/
import Derived.Test.YtdljjcnihajchaaFits
namespace Go.Proofs.Ytdljjcnihajchaa
open Go.RowKit

/-- The packet with DF turned, and its addresses turned about; the same without options. -/
def turn1 (p : P4.Pkt) : P4.Pkt := { p with df := !p.df }
def turn2 (p : P4.Pkt) : P4.Pkt := ⟨p.tos, p.id, p.ttl, p.proto, p.pl, !p.df, p.more, p.b0, p.b1, p.b2, p.b3, p.b0, p.b1, p.b2, p.b3, p.opts, p.data⟩
def turn3 (p : P4.Pkt) : P4.Pkt := ⟨p.tos, p.id, p.ttl, p.proto, p.pl, !p.df, p.more, p.b0, p.b1, p.b2, p.b3, p.a0, p.a1, p.a2, p.a3, p.opts, p.data⟩
def turn4 (p : P4.Pkt) : P4.Pkt := ⟨p.tos, p.id, p.ttl, p.proto, p.pl, !p.df, p.more, p.b0, p.b1, p.b2, p.b3, p.a0, p.a1, p.a2, p.a3, ⟨#[]⟩, p.data⟩
theorem turn3_code (p : P4.Pkt) : hcode (turn3 p) = hcode p := rfl
theorem turn3_out (p : P4.Pkt) (F T : List UInt8) (hF : F.length = 16) (hT : T.length = 16) : hout (turn3 p) F T hF hT = hout p F T hF hT := rfl
theorem turn4_code {p : P4.Pkt} (h : hcode p = 0) : hcode (turn4 p) = 0 := by
  obtain ⟨t0, t1, s0, s1, hp, _⟩ := hcode_ok h
  rw [hcode_in (p := turn4 p) (by show ¬ p.ttl < 2; omega) (by show ¬ 255 < p.ttl; omega) (by show ¬ p.tos < 0; omega) (by show ¬ 255 < p.tos; omega)]
  show (if prOk p.proto = true then (0 : Int) else 10) = 0
  rw [hp]
  rfl
theorem puts_size (vs : List Value) : ∀ (o : Nat) (A : Array Value), (puts A o vs).size = A.size := by
  induction vs with
  | nil => intro o A; rfl
  | cons v r ih => intro o A; show (puts (A.setIfInBounds o v) (o + 1) r).size = _; rw [ih]; simp
theorem Pst.sets {w0 w : World} {B g n : Nat} {T : TypeId} {l : List (Nat × TypeId × List Value)} (h : Pst w0 B l g T n w) (hne : ∀ x ∈ l, x.1 ≠ g) (hB : B ≤ g) (o : Nat) (vs : List Value) : Pst w0 B l g T n (w.setCells g o vs) := by
  obtain ⟨h1, A, h2, h3⟩ := h
  exact ⟨h1.sets hne hB o vs, _, h2.sets vs o _ _, by rw [puts_size]; exact h3⟩
theorem Pst.thereN {w0 w : World} {B g n : Nat} {T : TypeId} {l : List (Nat × TypeId × List Value)} (h : Pst w0 B l g T n w) (o m : Nat) (hm : o + m ≤ n) : w.there g o m := by
  obtain ⟨h1, A, h2, h3⟩ := h
  exact h2.there' o m (by omega)
theorem pkt_ranges (p : P4.Pkt) {W : World} {b : Nat} {TT : TypeId} (h : Bk W b TT p.vals.toArray) : W.rangeAt b 7 [.int .u8 p.a0, .int .u8 p.a1, .int .u8 p.a2, .int .u8 p.a3] ∧ W.rangeAt b 11 [.int .u8 p.b0, .int .u8 p.b1, .int .u8 p.b2, .int .u8 p.b3] := by
  constructor
  · intro j x hj
    rcases j with _ | _ | _ | _ | j
    · obtain rfl := Option.some.inj hj; exact h.at rfl
    · obtain rfl := Option.some.inj hj; exact h.at rfl
    · obtain rfl := Option.some.inj hj; exact h.at rfl
    · obtain rfl := Option.some.inj hj; exact h.at rfl
    · simp at hj
  · intro j x hj
    rcases j with _ | _ | _ | _ | j
    · obtain rfl := Option.some.inj hj; exact h.at rfl
    · obtain rfl := Option.some.inj hj; exact h.at rfl
    · obtain rfl := Option.some.inj hj; exact h.at rfl
    · obtain rfl := Option.some.inj hj; exact h.at rfl
    · simp at hj
theorem Try.infoV4c (a b c d : Int) : (Try.prog.info? 33).map (·.size) = some ([.int .u8 a, .int .u8 b, .int .u8 c, .int .u8 d] : List Value).length := by kernel_rfl
set_option maxRecDepth 100000 in
set_option maxHeartbeats 4000000 in
theorem blind_data (p : P4.Pkt) (F T : List UInt8) (hF : F.length = 16) (hT : T.length = 16) (w : World) (hd : (70000 : Int) < (p.data.size : Int)) :
    Calls Try.prog 6 #[.agg p.vals.toArray, .agg (bytV F).toArray, .agg (bytV T).toArray] w fun e w' => e = .returned (.bool true) ∧ Below w.heap.size w w' := by
  have HI_VP : Hid ((Try.prog.info? 35).map (·.size) = some (p.vals).length) := Lib.hid (P4.Try.infoIp _)
  have HO_VP : Hid ((p.vals).toArray.all (·.oneCell') = true) := Lib.hid (P4.vals_one _)
  have HL_VP : Hid ((p.vals).length = 17) := Lib.hid rfl
  have HI_VF : Hid ((Try.prog.info? 23).map (·.size) = some (bytV F).length) := Lib.hid (Try.infoV6 _ hF)
  have HO_VF : Hid ((bytV F).toArray.all (·.oneCell') = true) := Lib.hid (by rw [List.all_toArray, List.all_eq_true]; exact bytV_one _)
  have HL_VF : Hid ((bytV F).length = 16) := Lib.hid (by rw [bytV_len]; exact hF)
  have HI_VT : Hid ((Try.prog.info? 23).map (·.size) = some (bytV T).length) := Lib.hid (Try.infoV6 _ hT)
  have HO_VT : Hid ((bytV T).toArray.all (·.oneCell') = true) := Lib.hid (by rw [List.all_toArray, List.all_eq_true]; exact bytV_one _)
  have HL_VT : Hid ((bytV T).length = 16) := Lib.hid (by rw [bytV_len]; exact hT)
  have HC_VP_0 : Hid (p.vals[0]? = some (.int .i64 p.tos)) := Lib.hid rfl
  have HC_VP_1 : Hid (p.vals[1]? = some (.int .i64 p.id)) := Lib.hid rfl
  have HC_VP_2 : Hid (p.vals[2]? = some (.int .i64 p.ttl)) := Lib.hid rfl
  have HC_VP_3 : Hid (p.vals[3]? = some (.int .i64 p.proto)) := Lib.hid rfl
  have HC_VP_4 : Hid (p.vals[4]? = some (.int .i64 p.pl)) := Lib.hid rfl
  have HC_VP_5 : Hid (p.vals[5]? = some (.bool p.df)) := Lib.hid rfl
  have HC_VP_6 : Hid (p.vals[6]? = some (.bool p.more)) := Lib.hid rfl
  have HC_VP_15 : Hid (p.vals[15]? = some (.string p.opts)) := Lib.hid rfl
  have HC_VP_16 : Hid (p.vals[16]? = some (.string p.data)) := Lib.hid rfl
  have HK1 : Hid (Kp w w.heap.size [(w.heap.size + 1 + 1, 23, bytV T), (w.heap.size + 1, 23, bytV F), (w.heap.size, 35, p.vals)] (((w.alloc (.cells p.vals.toArray 35)).alloc (.cells (bytV F).toArray 23)).alloc (.cells (bytV T).toArray 23))) := Lib.hid (by
    have h := ((Kp.start w).new 35 p.vals).new 23 (bytV F)
    have e1 : (w.alloc (.cells p.vals.toArray 35)).heap.size = w.heap.size + 1 := by simp
    have e2 : ((w.alloc (.cells p.vals.toArray 35)).alloc (.cells (bytV F).toArray 23)).heap.size = w.heap.size + 1 + 1 := by simp
    rw [e1] at h
    have h2 := h.new 23 (bytV T)
    rwa [e2] at h2)
  generalize p.vals = VP at *
  generalize bytV F = VF at *
  generalize bytV T = VT at *
  generalize hw1 : ((w.alloc (.cells VP.toArray 35)).alloc (.cells VF.toArray 23)).alloc (.cells VT.toArray 23) = w1 at *
  go_enter Try.func6, Try.ntmps6
  go_upto_region 1 with (fail)
  clear hw1
  go_wp2_with (fail)
  refine (awake_true _).mono ?_
  rintro e w2 ⟨rfl, bb⟩
  have HK2 := Lib.hid (HK1.out.below bb (Nat.le_refl _))
  clear bb HK1
  have c16 : w2.cell? ⟨w.heap.size, 16, none⟩ = some (.string p.data) := HK2.out.tl.tl.hd.at HC_VP_16.out
  go_wp2_with (fail)
  go_ret
  exact ⟨rfl, HK2.out.2.1⟩
set_option maxRecDepth 100000 in
set_option maxHeartbeats 4000000 in
theorem blind_opts (p : P4.Pkt) (F T : List UInt8) (hF : F.length = 16) (hT : T.length = 16) (w : World) (hd : ¬ (70000 : Int) < (p.data.size : Int)) (ho : (1000 : Int) < (p.opts.size : Int)) :
    Calls Try.prog 6 #[.agg p.vals.toArray, .agg (bytV F).toArray, .agg (bytV T).toArray] w fun e w' => e = .returned (.bool true) ∧ Below w.heap.size w w' := by
  have HI_VP : Hid ((Try.prog.info? 35).map (·.size) = some (p.vals).length) := Lib.hid (P4.Try.infoIp _)
  have HO_VP : Hid ((p.vals).toArray.all (·.oneCell') = true) := Lib.hid (P4.vals_one _)
  have HL_VP : Hid ((p.vals).length = 17) := Lib.hid rfl
  have HI_VF : Hid ((Try.prog.info? 23).map (·.size) = some (bytV F).length) := Lib.hid (Try.infoV6 _ hF)
  have HO_VF : Hid ((bytV F).toArray.all (·.oneCell') = true) := Lib.hid (by rw [List.all_toArray, List.all_eq_true]; exact bytV_one _)
  have HL_VF : Hid ((bytV F).length = 16) := Lib.hid (by rw [bytV_len]; exact hF)
  have HI_VT : Hid ((Try.prog.info? 23).map (·.size) = some (bytV T).length) := Lib.hid (Try.infoV6 _ hT)
  have HO_VT : Hid ((bytV T).toArray.all (·.oneCell') = true) := Lib.hid (by rw [List.all_toArray, List.all_eq_true]; exact bytV_one _)
  have HL_VT : Hid ((bytV T).length = 16) := Lib.hid (by rw [bytV_len]; exact hT)
  have HC_VP_0 : Hid (p.vals[0]? = some (.int .i64 p.tos)) := Lib.hid rfl
  have HC_VP_1 : Hid (p.vals[1]? = some (.int .i64 p.id)) := Lib.hid rfl
  have HC_VP_2 : Hid (p.vals[2]? = some (.int .i64 p.ttl)) := Lib.hid rfl
  have HC_VP_3 : Hid (p.vals[3]? = some (.int .i64 p.proto)) := Lib.hid rfl
  have HC_VP_4 : Hid (p.vals[4]? = some (.int .i64 p.pl)) := Lib.hid rfl
  have HC_VP_5 : Hid (p.vals[5]? = some (.bool p.df)) := Lib.hid rfl
  have HC_VP_6 : Hid (p.vals[6]? = some (.bool p.more)) := Lib.hid rfl
  have HC_VP_15 : Hid (p.vals[15]? = some (.string p.opts)) := Lib.hid rfl
  have HC_VP_16 : Hid (p.vals[16]? = some (.string p.data)) := Lib.hid rfl
  have HK1 : Hid (Kp w w.heap.size [(w.heap.size + 1 + 1, 23, bytV T), (w.heap.size + 1, 23, bytV F), (w.heap.size, 35, p.vals)] (((w.alloc (.cells p.vals.toArray 35)).alloc (.cells (bytV F).toArray 23)).alloc (.cells (bytV T).toArray 23))) := Lib.hid (by
    have h := ((Kp.start w).new 35 p.vals).new 23 (bytV F)
    have e1 : (w.alloc (.cells p.vals.toArray 35)).heap.size = w.heap.size + 1 := by simp
    have e2 : ((w.alloc (.cells p.vals.toArray 35)).alloc (.cells (bytV F).toArray 23)).heap.size = w.heap.size + 1 + 1 := by simp
    rw [e1] at h
    have h2 := h.new 23 (bytV T)
    rwa [e2] at h2)
  generalize p.vals = VP at *
  generalize bytV F = VF at *
  generalize bytV T = VT at *
  generalize hw1 : ((w.alloc (.cells VP.toArray 35)).alloc (.cells VF.toArray 23)).alloc (.cells VT.toArray 23) = w1 at *
  go_enter Try.func6, Try.ntmps6
  go_upto_region 1 with (fail)
  clear hw1
  go_wp2_with (fail)
  refine (awake_true _).mono ?_
  rintro e w2 ⟨rfl, bb⟩
  have HK2 := Lib.hid (HK1.out.below bb (Nat.le_refl _))
  clear bb HK1
  have c16 : w2.cell? ⟨w.heap.size, 16, none⟩ = some (.string p.data) := HK2.out.tl.tl.hd.at HC_VP_16.out
  have c15 : w2.cell? ⟨w.heap.size, 15, none⟩ = some (.string p.opts) := HK2.out.tl.tl.hd.at HC_VP_15.out
  go_wp2_with (fail)
  go_ret
  exact ⟨rfl, HK2.out.2.1⟩

set_option maxRecDepth 100000 in
set_option maxHeartbeats 4000000 in
theorem blind_mainA (p : P4.Pkt) (F T : List UInt8) (hF : F.length = 16) (hT : T.length = 16) (w : World) (hd : ¬ (70000 : Int) < (p.data.size : Int)) (ho : ¬ (1000 : Int) < (p.opts.size : Int)) (hh : hcode p = 0) (hw : (h46 p F T hF hT).why = 0) :
    Calls Try.prog 6 #[.agg p.vals.toArray, .agg (bytV F).toArray, .agg (bytV T).toArray] w fun e w' => e = .returned (.bool true) ∧ Below w.heap.size w w' := by
  obtain ⟨VQ, hVQ⟩ : ∃ V, V = (h46 p F T hF hT).vals (.slice none 0 0) := ⟨_, rfl⟩
  have CH : Hid (∀ W, Calls Try.prog 7 #[.agg p.vals.toArray, .agg (bytV F).toArray, .agg (bytV T).toArray] W fun e w' =>  e = .returned (.tuple #[.agg VQ.toArray, .nilIface]) ∧ Below W.heap.size W w') := Lib.hid (fun W => by
    refine (head_any p F T hF hT W).mono ?_
    rintro e w' ⟨x, rfl, her, b⟩
    rcases her with ⟨_, rfl⟩ | ⟨h, _⟩
    · exact ⟨by rw [hVQ, hout_ok hh] <;> rfl, b⟩
    · exact absurd hh h)
  have CG : Hid (∀ W, Calls Try.prog 7 #[.agg (turn3 p).vals.toArray, .agg (bytV F).toArray, .agg (bytV T).toArray] W fun e w' =>  e = .returned (.tuple #[.agg VQ.toArray, .nilIface]) ∧ Below W.heap.size W w') := Lib.hid (fun W => by
    refine (head_any (turn3 p) F T hF hT W).mono ?_
    rintro e w' ⟨x, rfl, her, b⟩
    rcases her with ⟨_, rfl⟩ | ⟨h, _⟩
    · exact ⟨by rw [hVQ, hout_ok ((turn3_code p).trans hh)] <;> rfl, b⟩
    · exact absurd ((turn3_code p).trans hh) h)
  have CI : Hid (∀ W, Calls Try.prog 7 #[.agg (turn4 p).vals.toArray, .agg (bytV F).toArray, .agg (bytV T).toArray] W fun e w' =>  e = .returned (.tuple #[.agg VQ.toArray, .nilIface]) ∧ Below W.heap.size W w') := Lib.hid (fun W => by
    refine (head_any (turn4 p) F T hF hT W).mono ?_
    rintro e w' ⟨x, rfl, her, b⟩
    rcases her with ⟨_, rfl⟩ | ⟨h, _⟩
    · exact ⟨by rw [hVQ, hout_ok (turn4_code hh)] <;> rfl, b⟩
    · exact absurd (turn4_code hh) h)
  obtain ⟨qb, hqb⟩ : ∃ b, b = (h46 p F T hF hT).bytes := ⟨_, rfl⟩
  have CB : Hid (∀ W, Calls Try.prog 15 #[.agg VQ.toArray] W fun e w' =>  e = .returned (.tuple #[.string qb, .nilIface]) ∧ Below W.heap.size W w') := Lib.hid (fun W => by rw [hVQ, hqb]; exact bytes_ok _ _ W (exs_nil W) (h46_sm (by omega)) hw h46_id)
  clear hqb
  have HI_VQ : Hid ((Try.prog.info? 27).map (·.size) = some (VQ).length) := Lib.hid (by rw [hVQ]; exact Try.info6 _ _)
  have HO_VQ : Hid ((VQ).toArray.all (·.oneCell') = true) := Lib.hid (by rw [hVQ]; exact vals_one _ _ rfl)
  have HL_VQ : Hid ((VQ).length = 42) := Lib.hid (by rw [hVQ]; exact vals_len _ _)
  clear hVQ hh hw
  have HI_X1 : Hid ((Try.prog.info? 35).map (·.size) = some ((turn1 p).vals).length) := Lib.hid (P4.Try.infoIp _)
  have HO_X1 : Hid (((turn1 p).vals).toArray.all (·.oneCell') = true) := Lib.hid (P4.vals_one _)
  have HL_X1 : Hid (((turn1 p).vals).length = 17) := Lib.hid rfl
  have HI_X2 : Hid ((Try.prog.info? 35).map (·.size) = some ((turn2 p).vals).length) := Lib.hid (P4.Try.infoIp _)
  have HO_X2 : Hid (((turn2 p).vals).toArray.all (·.oneCell') = true) := Lib.hid (P4.vals_one _)
  have HL_X2 : Hid (((turn2 p).vals).length = 17) := Lib.hid rfl
  have HI_X3 : Hid ((Try.prog.info? 35).map (·.size) = some ((turn3 p).vals).length) := Lib.hid (P4.Try.infoIp _)
  have HO_X3 : Hid (((turn3 p).vals).toArray.all (·.oneCell') = true) := Lib.hid (P4.vals_one _)
  have HL_X3 : Hid (((turn3 p).vals).length = 17) := Lib.hid rfl
  have HI_X4 : Hid ((Try.prog.info? 35).map (·.size) = some ((turn4 p).vals).length) := Lib.hid (P4.Try.infoIp _)
  have HO_X4 : Hid (((turn4 p).vals).toArray.all (·.oneCell') = true) := Lib.hid (P4.vals_one _)
  have HL_X4 : Hid (((turn4 p).vals).length = 17) := Lib.hid rfl
  have HE1 : Hid (p.vals.set 5 (.bool (!p.df)) = (turn1 p).vals) := Lib.hid rfl
  have HE2 : Hid (puts (turn1 p).vals.toArray 7 ([.int .u8 p.b0, .int .u8 p.b1, .int .u8 p.b2, .int .u8 p.b3] : List Value) = (turn2 p).vals.toArray) := Lib.hid rfl
  have HE3 : Hid (puts (turn2 p).vals.toArray 11 ([.int .u8 p.a0, .int .u8 p.a1, .int .u8 p.a2, .int .u8 p.a3] : List Value) = (turn3 p).vals.toArray) := Lib.hid rfl
  have HE4 : Hid ((turn3 p).vals.set 15 (.string ⟨#[]⟩) = (turn4 p).vals) := Lib.hid rfl
  have HRG : Hid (∀ (W : World) (b : Nat), Bk W b 35 p.vals.toArray → W.rangeAt b 7 ([.int .u8 p.a0, .int .u8 p.a1, .int .u8 p.a2, .int .u8 p.a3] : List Value) ∧ W.rangeAt b 11 ([.int .u8 p.b0, .int .u8 p.b1, .int .u8 p.b2, .int .u8 p.b3] : List Value)) := Lib.hid (fun W b h => pkt_ranges p h)
  have HI_VA : Hid ((Try.prog.info? 33).map (·.size) = some (([.int .u8 p.a0, .int .u8 p.a1, .int .u8 p.a2, .int .u8 p.a3] : List Value)).length) := Lib.hid (Try.infoV4c _ _ _ _)
  have HO_VA : Hid ((([.int .u8 p.a0, .int .u8 p.a1, .int .u8 p.a2, .int .u8 p.a3] : List Value)).toArray.all (·.oneCell') = true) := Lib.hid (by simp [Value.oneCell'])
  have HL_VA : Hid ((([.int .u8 p.a0, .int .u8 p.a1, .int .u8 p.a2, .int .u8 p.a3] : List Value)).length = 4) := Lib.hid rfl
  have HI_VB : Hid ((Try.prog.info? 33).map (·.size) = some (([.int .u8 p.b0, .int .u8 p.b1, .int .u8 p.b2, .int .u8 p.b3] : List Value)).length) := Lib.hid (Try.infoV4c _ _ _ _)
  have HO_VB : Hid ((([.int .u8 p.b0, .int .u8 p.b1, .int .u8 p.b2, .int .u8 p.b3] : List Value)).toArray.all (·.oneCell') = true) := Lib.hid (by simp [Value.oneCell'])
  have HL_VB : Hid ((([.int .u8 p.b0, .int .u8 p.b1, .int .u8 p.b2, .int .u8 p.b3] : List Value)).length = 4) := Lib.hid rfl
  generalize ([.int .u8 p.a0, .int .u8 p.a1, .int .u8 p.a2, .int .u8 p.a3] : List Value) = VA at *
  generalize ([.int .u8 p.b0, .int .u8 p.b1, .int .u8 p.b2, .int .u8 p.b3] : List Value) = VB at *
  generalize (turn1 p).vals = X1 at *
  generalize (turn2 p).vals = X2 at *
  generalize (turn3 p).vals = X3 at *
  generalize (turn4 p).vals = X4 at *
  have HI_VP : Hid ((Try.prog.info? 35).map (·.size) = some (p.vals).length) := Lib.hid (P4.Try.infoIp _)
  have HO_VP : Hid ((p.vals).toArray.all (·.oneCell') = true) := Lib.hid (P4.vals_one _)
  have HL_VP : Hid ((p.vals).length = 17) := Lib.hid rfl
  have HI_VF : Hid ((Try.prog.info? 23).map (·.size) = some (bytV F).length) := Lib.hid (Try.infoV6 _ hF)
  have HO_VF : Hid ((bytV F).toArray.all (·.oneCell') = true) := Lib.hid (by rw [List.all_toArray, List.all_eq_true]; exact bytV_one _)
  have HL_VF : Hid ((bytV F).length = 16) := Lib.hid (by rw [bytV_len]; exact hF)
  have HI_VT : Hid ((Try.prog.info? 23).map (·.size) = some (bytV T).length) := Lib.hid (Try.infoV6 _ hT)
  have HO_VT : Hid ((bytV T).toArray.all (·.oneCell') = true) := Lib.hid (by rw [List.all_toArray, List.all_eq_true]; exact bytV_one _)
  have HL_VT : Hid ((bytV T).length = 16) := Lib.hid (by rw [bytV_len]; exact hT)
  have HC_VP_0 : Hid (p.vals[0]? = some (.int .i64 p.tos)) := Lib.hid rfl
  have HC_VP_1 : Hid (p.vals[1]? = some (.int .i64 p.id)) := Lib.hid rfl
  have HC_VP_2 : Hid (p.vals[2]? = some (.int .i64 p.ttl)) := Lib.hid rfl
  have HC_VP_3 : Hid (p.vals[3]? = some (.int .i64 p.proto)) := Lib.hid rfl
  have HC_VP_4 : Hid (p.vals[4]? = some (.int .i64 p.pl)) := Lib.hid rfl
  have HC_VP_5 : Hid (p.vals[5]? = some (.bool p.df)) := Lib.hid rfl
  have HC_VP_6 : Hid (p.vals[6]? = some (.bool p.more)) := Lib.hid rfl
  have HC_VP_15 : Hid (p.vals[15]? = some (.string p.opts)) := Lib.hid rfl
  have HC_VP_16 : Hid (p.vals[16]? = some (.string p.data)) := Lib.hid rfl
  have HK1 : Hid (Kp w w.heap.size [(w.heap.size + 1 + 1, 23, bytV T), (w.heap.size + 1, 23, bytV F), (w.heap.size, 35, p.vals)] (((w.alloc (.cells p.vals.toArray 35)).alloc (.cells (bytV F).toArray 23)).alloc (.cells (bytV T).toArray 23))) := Lib.hid (by
    have h := ((Kp.start w).new 35 p.vals).new 23 (bytV F)
    have e1 : (w.alloc (.cells p.vals.toArray 35)).heap.size = w.heap.size + 1 := by simp
    have e2 : ((w.alloc (.cells p.vals.toArray 35)).alloc (.cells (bytV F).toArray 23)).heap.size = w.heap.size + 1 + 1 := by simp
    rw [e1] at h
    have h2 := h.new 23 (bytV T)
    rwa [e2] at h2)
  generalize p.vals = VP at *
  generalize bytV F = VF at *
  generalize bytV T = VT at *
  generalize hw1 : ((w.alloc (.cells VP.toArray 35)).alloc (.cells VF.toArray 23)).alloc (.cells VT.toArray 23) = w1 at *
  go_enter Try.func6, Try.ntmps6
  go_upto_region 1 with (fail)
  clear hw1
  go_wp2_with (fail)
  refine (awake_true _).mono ?_
  rintro e w2 ⟨rfl, bb⟩
  have HK2 := Lib.hid (HK1.out.below bb (Nat.le_refl _))
  clear bb HK1
  have c16 : w2.cell? ⟨w.heap.size, 16, none⟩ = some (.string p.data) := HK2.out.tl.tl.hd.at HC_VP_16.out
  have c15 : w2.cell? ⟨w.heap.size, 15, none⟩ = some (.string p.opts) := HK2.out.tl.tl.hd.at HC_VP_15.out
  go_upto_region 5 with (fail)
  clear c16 c15
  have hr0 := HK2.out.tl.tl.hd.range
  have hr1 := HK2.out.tl.hd.range
  have hr2 := HK2.out.hd.range
  go_wp2_with (((with_reducible (change wpList _ _ _ _ _ _)); (first | (refine wpList_load_mid rfl 35 _ rfl (w.heap.size) 0 rfl (VP) _ hr0 Try.underlying35 rfl HI_VP.out ?_) | (refine wpList_load_mid rfl 23 _ rfl (w.heap.size + 1) 0 rfl (VF) _ hr1 Try.underlying23 rfl HI_VF.out ?_) | (refine wpList_load_mid rfl 23 _ rfl (w.heap.size + 1 + 1) 0 rfl (VT) _ hr2 Try.underlying23 rfl HI_VT.out ?_))))
  clear hr0 hr1 hr2
  refine (CH.out _).mono ?_
  rintro e w3 ⟨rfl, bb⟩
  have HK3 := Lib.hid (HK2.out.below bb (Nat.le_refl _))
  clear bb HK2
  have ht := (bk_new w3 27 ([.int .i64 0, .int .i64 0, .int .i64 0, .int .u8 0, .int .u8 0, .int .u8 0, .int .u8 0, .int .u8 0, .int .u8 0, .int .u8 0, .int .u8 0, .int .u8 0, .int .u8 0, .int .u8 0, .int .u8 0, .int .u8 0, .int .u8 0, .int .u8 0, .int .u8 0, .int .u8 0, .int .u8 0, .int .u8 0, .int .u8 0, .int .u8 0, .int .u8 0, .int .u8 0, .int .u8 0, .int .u8 0, .int .u8 0, .int .u8 0, .int .u8 0, .int .u8 0, .int .u8 0, .int .u8 0, .int .u8 0, .slice none 0 0, .bool false, .int .u32 0, .int .i64 0, .bool false, .int .i64 0, .string ⟨#[]⟩] : List Value).toArray).there VQ.toArray.size (by have := HL_VQ.out; simp; omega)
  go_upto_region 6 with (((with_reducible (change wpList _ _ _ _ _ _)); ((refine wpList_store_mid rfl 27 _ _ rfl (w3.heap.size) 0 VQ.toArray rfl rfl ht (by simpa using HI_VQ.out) HO_VQ.out ?_))))
  have HK4 := Lib.hid (HK3.out.put 27 ([.int .i64 0, .int .i64 0, .int .i64 0, .int .u8 0, .int .u8 0, .int .u8 0, .int .u8 0, .int .u8 0, .int .u8 0, .int .u8 0, .int .u8 0, .int .u8 0, .int .u8 0, .int .u8 0, .int .u8 0, .int .u8 0, .int .u8 0, .int .u8 0, .int .u8 0, .int .u8 0, .int .u8 0, .int .u8 0, .int .u8 0, .int .u8 0, .int .u8 0, .int .u8 0, .int .u8 0, .int .u8 0, .int .u8 0, .int .u8 0, .int .u8 0, .int .u8 0, .int .u8 0, .int .u8 0, .int .u8 0, .slice none 0 0, .bool false, .int .u32 0, .int .i64 0, .bool false, .int .i64 0, .string ⟨#[]⟩] : List Value).toArray VQ (by have := HL_VQ.out; simp; omega))
  clear ht HK3
  generalize (w3.alloc (.cells ([.int .i64 0, .int .i64 0, .int .i64 0, .int .u8 0, .int .u8 0, .int .u8 0, .int .u8 0, .int .u8 0, .int .u8 0, .int .u8 0, .int .u8 0, .int .u8 0, .int .u8 0, .int .u8 0, .int .u8 0, .int .u8 0, .int .u8 0, .int .u8 0, .int .u8 0, .int .u8 0, .int .u8 0, .int .u8 0, .int .u8 0, .int .u8 0, .int .u8 0, .int .u8 0, .int .u8 0, .int .u8 0, .int .u8 0, .int .u8 0, .int .u8 0, .int .u8 0, .int .u8 0, .int .u8 0, .int .u8 0, .slice none 0 0, .bool false, .int .u32 0, .int .i64 0, .bool false, .int .i64 0, .string ⟨#[]⟩] : List Value).toArray 27)).setCells w3.heap.size 0 VQ = w4 at *
  generalize w3.heap.size = g7 at *
  have HG7 : Hid (g7 < w4.heap.size ∧ w.heap.size + 1 + 1 < w4.heap.size) := Lib.hid ⟨HK4.out.hd.lt, HK4.out.tl.hd.lt⟩
  have hr0 := HK4.out.tl.tl.tl.hd.range
  have ht := (bk_new w4 35 ([.int .i64 0, .int .i64 0, .int .i64 0, .int .i64 0, .int .i64 0, .bool false, .bool false, .int .u8 0, .int .u8 0, .int .u8 0, .int .u8 0, .int .u8 0, .int .u8 0, .int .u8 0, .int .u8 0, .string ⟨#[]⟩, .string ⟨#[]⟩] : List Value).toArray).there VP.toArray.size (by have := HL_VP.out; simp; omega)
  go_upto_region 7 with (((with_reducible (change wpList _ _ _ _ _ _)); (first | (refine wpList_load_mid rfl 35 _ rfl (w.heap.size) 0 rfl (VP) _ hr0 Try.underlying35 rfl HI_VP.out ?_) | (refine wpList_store_mid rfl 35 _ _ rfl (w4.heap.size) 0 VP.toArray rfl rfl ht (by simpa using HI_VP.out) HO_VP.out ?_))))
  have HK5 := Lib.hid (HK4.out.put 35 ([.int .i64 0, .int .i64 0, .int .i64 0, .int .i64 0, .int .i64 0, .bool false, .bool false, .int .u8 0, .int .u8 0, .int .u8 0, .int .u8 0, .int .u8 0, .int .u8 0, .int .u8 0, .int .u8 0, .string ⟨#[]⟩, .string ⟨#[]⟩] : List Value).toArray VP (by have := HL_VP.out; simp; omega))
  clear ht HK4
  generalize (w4.alloc (.cells ([.int .i64 0, .int .i64 0, .int .i64 0, .int .i64 0, .int .i64 0, .bool false, .bool false, .int .u8 0, .int .u8 0, .int .u8 0, .int .u8 0, .int .u8 0, .int .u8 0, .int .u8 0, .int .u8 0, .string ⟨#[]⟩, .string ⟨#[]⟩] : List Value).toArray 35)).setCells w4.heap.size 0 VP = w5 at *
  generalize w4.heap.size = g9 at *
  clear hr0
  have hne : ∀ x ∈ ([(g7, 27, VQ), (w.heap.size + 1 + 1, 23, VT), (w.heap.size + 1, 23, VF), (w.heap.size, 35, VP)] : List (Nat × TypeId × List Value)), x.1 ≠ g9 := by
    have hg := HG7.out
    intro x hx
    simp only [List.mem_cons, List.not_mem_nil, or_false] at hx
    rcases hx with rfl | rfl | rfl | rfl <;> (show _ ≠ g9; omega)
  have hgB : w.heap.size ≤ g9 := by have := HG7.out; omega
  have HNE := Lib.hid (And.intro hne hgB)
  clear hne hgB
  have c5 : w5.cell? ⟨w.heap.size, 5, none⟩ = some (.bool p.df) := HK5.out.tl.tl.tl.tl.hd.at HC_VP_5.out
  obtain ⟨uu, hu, hz⟩ := HK5.out.some1 5 (by have := HL_VP.out; omega)
  go_upto_region 8 with (fail)
  have hk := HK5.out.set1 HNE.out.1 HNE.out.2 5 (.bool (!p.df))
  rw [HE1.out] at hk
  have HK6 := Lib.hid hk
  clear hk hu hz HK5 c5
  generalize w5.setCell ⟨g9, 5, none⟩ (.bool (!p.df)) = w6 at *
  have HKR : Hid (∀ W : World, Pst w w.heap.size [(g7, 27, VQ), (w.heap.size + 1 + 1, 23, VT), (w.heap.size + 1, 23, VF), (w.heap.size, 35, VP)] g9 35 17 W → (fun w' => Pst w w.heap.size [(g7, 27, VQ), (w.heap.size + 1 + 1, 23, VT), (w.heap.size + 1, 23, VF), (w.heap.size, 35, VP)] g9 35 17 w' ∧ w'.rangeAt (w.heap.size) 7 VA ∧ w'.rangeAt (w.heap.size) 11 VB) W) := Lib.hid (fun W k => ⟨k, HRG.out _ _ k.1.tl.tl.tl.hd⟩)
  refine wp_region_noPanic ?_
  refine wp_region_held_drew (S := fun w' => Pst w w.heap.size [(g7, 27, VQ), (w.heap.size + 1 + 1, 23, VT), (w.heap.size + 1, 23, VF), (w.heap.size, 35, VP)] g9 35 17 w' ∧ w'.rangeAt (w.heap.size) 7 VA ∧ w'.rangeAt (w.heap.size) 11 VB) (by kernel_rfl) (HKR.out _ (Pst.of HK6.out.drew HL_X1.out)) (fun hHeld => ?_)
  refine wpAnyH_take (i := 0) (oi := { dst := some 44, op := Op.fieldAddr 35 (Operand.tmp 3) 8, type := 0, pos := "outright.go:41", after := #[], guard := none }) (v := ?_) rfl (by kernel_rfl) (by kernel_rfl) (by kernel_rfl) (fun _ _ _ h => h) (Or.inl ⟨by rfl, ?_⟩) (by assumption) ?_
  rotate_left
  · (intro ww hSw; (try dsimp only at hSw); go_simp; try with_reducible rfl)
  (try simp only [Act.put, List.setIfInBounds_toArray, List.set_cons_zero, List.set_cons_succ])
  refine wpAnyH_take (i := 1) (oi := { dst := some 45, op := Op.load 33 (Operand.tmp 44), type := 33, pos := "outright.go:41", after := #[{ on := 0, ground := Ground.data }], guard := none }) (v := .agg (VB).toArray) rfl (by kernel_rfl) (by kernel_rfl) (by kernel_rfl) (fun _ _ _ h => h) (yieldsIf_load_mid (by rfl) _ _ rfl (w.heap.size) 11 rfl (VB) _ (fun ww hSw => hSw.2.2) Try.underlying33 rfl HI_VB.out) (by assumption) ?_
  (try simp only [Act.put, List.setIfInBounds_toArray, List.set_cons_zero, List.set_cons_succ])
  refine wpAnyH_take (i := 2) (oi := { dst := some 46, op := Op.fieldAddr 35 (Operand.tmp 3) 7, type := 0, pos := "outright.go:41", after := #[{ on := 5, ground := Ground.gcOnly Departure.lateStores }], guard := none }) (v := ?_) rfl (by kernel_rfl) (by kernel_rfl) (by kernel_rfl) (fun _ _ _ h => h) (Or.inl ⟨by rfl, ?_⟩) (by assumption) ?_
  rotate_left
  · (intro ww hSw; (try dsimp only at hSw); go_simp; try with_reducible rfl)
  (try simp only [Act.put, List.setIfInBounds_toArray, List.set_cons_zero, List.set_cons_succ])
  refine wpAnyH_take (i := 3) (oi := { dst := some 47, op := Op.load 33 (Operand.tmp 46), type := 33, pos := "outright.go:41", after := #[{ on := 2, ground := Ground.data }, { on := 5, ground := Ground.gcOnly Departure.lateStores }], guard := none }) (v := .agg (VA).toArray) rfl (by kernel_rfl) (by kernel_rfl) (by kernel_rfl) (fun _ _ _ h => h) (yieldsIf_load_mid (by rfl) _ _ rfl (w.heap.size) 7 rfl (VA) _ (fun ww hSw => hSw.2.1) Try.underlying33 rfl HI_VA.out) (by assumption) ?_
  (try simp only [Act.put, List.setIfInBounds_toArray, List.set_cons_zero, List.set_cons_succ])
  refine wpAnyH_take (i := 4) (oi := { dst := some 48, op := Op.fieldAddr 35 (Operand.tmp 9) 7, type := 0, pos := "outright.go:41", after := #[{ on := 0, ground := Ground.phase }, { on := 1, ground := Ground.phase }, { on := 2, ground := Ground.textOnly Departure.lateStores }, { on := 3, ground := Ground.textOnly Departure.lateStores }], guard := none }) (v := ?_) rfl (by kernel_rfl) (by kernel_rfl) (by kernel_rfl) (fun _ _ _ h => h) (Or.inl ⟨by rfl, ?_⟩) (by assumption) ?_
  rotate_left
  · (intro ww hSw; (try dsimp only at hSw); go_simp; try with_reducible rfl)
  (try simp only [Act.put, List.setIfInBounds_toArray, List.set_cons_zero, List.set_cons_succ])
  refine wpAnyH_ready (rs := [5]) (by kernel_rfl) (by simp) ?_
  refine AllReadyH.cons (o := { dst := none, op := Op.store 33 (Operand.tmp 48) (Operand.tmp 45), type := 0, pos := "outright.go:41", after := #[{ on := 4, ground := Ground.data }, { on := 1, ground := Ground.data }, { on := 0, ground := Ground.phase }, { on := 1, ground := Ground.phase }, { on := 2, ground := Ground.textOnly Departure.lateStores }, { on := 3, ground := Ground.textOnly Departure.lateStores }], guard := none }) rfl (fun K hK => ?_) AllReadyH.nil
  rw [if_pos (by rfl)]
  refine wp_store_mid 33 _ _ rfl g9 7 VB.toArray rfl rfl ((And.left hHeld).thereN 7 _ (by have := HL_VB.out; simp; omega)) (by simpa using HI_VB.out) HO_VB.out ?_
  refine hK.out _ _ (HKR.out _ ((And.left hHeld).sets HNE.out.1 HNE.out.2 7 VB)) (fun hHeld => ?_)
  clear hK K
  (try simp only [Act.put])
  refine wpAnyH_take (i := 6) (oi := { dst := some 49, op := Op.fieldAddr 35 (Operand.tmp 9) 8, type := 0, pos := "outright.go:41", after := #[{ on := 0, ground := Ground.phase }, { on := 1, ground := Ground.phase }, { on := 2, ground := Ground.phase }, { on := 3, ground := Ground.phase }, { on := 4, ground := Ground.phase }, { on := 5, ground := Ground.phase }], guard := none }) (v := ?_) rfl (by kernel_rfl) (by kernel_rfl) (by kernel_rfl) (fun _ _ _ h => h) (Or.inl ⟨by rfl, ?_⟩) (by assumption) ?_
  rotate_left
  · (intro ww hSw; (try dsimp only at hSw); go_simp; try with_reducible rfl)
  (try simp only [Act.put, List.setIfInBounds_toArray, List.set_cons_zero, List.set_cons_succ])
  refine wpAnyH_ready (rs := [7]) (by kernel_rfl) (by simp) ?_
  refine AllReadyH.cons (o := { dst := none, op := Op.store 33 (Operand.tmp 49) (Operand.tmp 47), type := 0, pos := "outright.go:41", after := #[{ on := 6, ground := Ground.data }, { on := 3, ground := Ground.data }, { on := 5, ground := Ground.chain }, { on := 0, ground := Ground.phase }, { on := 1, ground := Ground.phase }, { on := 2, ground := Ground.phase }, { on := 3, ground := Ground.phase }, { on := 4, ground := Ground.phase }, { on := 5, ground := Ground.phase }], guard := none }) rfl (fun K hK => ?_) AllReadyH.nil
  rw [if_pos (by rfl)]
  refine wp_store_mid 33 _ _ rfl g9 11 VA.toArray rfl rfl ((And.left hHeld).thereN 11 _ (by have := HL_VA.out; simp; omega)) (by simpa using HI_VA.out) HO_VA.out ?_
  refine hK.out _ _ (HKR.out _ ((And.left hHeld).sets HNE.out.1 HNE.out.2 11 VA)) (fun hHeld => ?_)
  clear hK K
  (try simp only [Act.put])
  refine wpAnyH_done (by kernel_rfl) ?_ _
  refine NoPanic.normal ?_
  have hkf := (HK6.out.drew.sets1 HNE.out.1 HNE.out.2 7 VB HE2.out).sets1 HNE.out.1 HNE.out.2 11 VA HE3.out
  have HK7 : Hid (Kp w w.heap.size [(g9, 35, X3), (g7, 27, VQ), (w.heap.size + 1 + 1, 23, VT), (w.heap.size + 1, 23, VF), (w.heap.size, 35, VP)] ((w6.drew.setCells g9 7 VB).setCells g9 11 VA)) := Lib.hid hkf
  clear hkf hHeld HK6
  generalize (w6.drew.setCells g9 7 VB).setCells g9 11 VA = w7 at *
  have hr0 := HK7.out.hd.range
  have hr1 := HK7.out.tl.tl.tl.hd.range
  have hr2 := HK7.out.tl.tl.hd.range
  go_wp2_with (((with_reducible (change wpList _ _ _ _ _ _)); (first | (refine wpList_load_mid rfl 35 _ rfl (g9) 0 rfl (X3) _ hr0 Try.underlying35 rfl HI_X3.out ?_) | (refine wpList_load_mid rfl 23 _ rfl (w.heap.size + 1) 0 rfl (VF) _ hr1 Try.underlying23 rfl HI_VF.out ?_) | (refine wpList_load_mid rfl 23 _ rfl (w.heap.size + 1 + 1) 0 rfl (VT) _ hr2 Try.underlying23 rfl HI_VT.out ?_))))
  clear hr0 hr1 hr2
  refine (CG.out _).mono ?_
  rintro e w8 ⟨rfl, bb⟩
  have HK8 := Lib.hid (HK7.out.below bb (Nat.le_refl _))
  clear bb HK7
  have HG9 : Hid (g9 < w8.heap.size) := Lib.hid HK8.out.hd.lt
  have ht := (bk_new w8 27 ([.int .i64 0, .int .i64 0, .int .i64 0, .int .u8 0, .int .u8 0, .int .u8 0, .int .u8 0, .int .u8 0, .int .u8 0, .int .u8 0, .int .u8 0, .int .u8 0, .int .u8 0, .int .u8 0, .int .u8 0, .int .u8 0, .int .u8 0, .int .u8 0, .int .u8 0, .int .u8 0, .int .u8 0, .int .u8 0, .int .u8 0, .int .u8 0, .int .u8 0, .int .u8 0, .int .u8 0, .int .u8 0, .int .u8 0, .int .u8 0, .int .u8 0, .int .u8 0, .int .u8 0, .int .u8 0, .int .u8 0, .slice none 0 0, .bool false, .int .u32 0, .int .i64 0, .bool false, .int .i64 0, .string ⟨#[]⟩] : List Value).toArray).there VQ.toArray.size (by have := HL_VQ.out; simp; omega)
  go_upto_region 10 with (((with_reducible (change wpList _ _ _ _ _ _)); ((refine wpList_store_mid rfl 27 _ _ rfl (w8.heap.size) 0 VQ.toArray rfl rfl ht (by simpa using HI_VQ.out) HO_VQ.out ?_))))
  have HK9 := Lib.hid (HK8.out.put 27 ([.int .i64 0, .int .i64 0, .int .i64 0, .int .u8 0, .int .u8 0, .int .u8 0, .int .u8 0, .int .u8 0, .int .u8 0, .int .u8 0, .int .u8 0, .int .u8 0, .int .u8 0, .int .u8 0, .int .u8 0, .int .u8 0, .int .u8 0, .int .u8 0, .int .u8 0, .int .u8 0, .int .u8 0, .int .u8 0, .int .u8 0, .int .u8 0, .int .u8 0, .int .u8 0, .int .u8 0, .int .u8 0, .int .u8 0, .int .u8 0, .int .u8 0, .int .u8 0, .int .u8 0, .int .u8 0, .int .u8 0, .slice none 0 0, .bool false, .int .u32 0, .int .i64 0, .bool false, .int .i64 0, .string ⟨#[]⟩] : List Value).toArray VQ (by have := HL_VQ.out; simp; omega))
  clear ht HK8
  generalize (w8.alloc (.cells ([.int .i64 0, .int .i64 0, .int .i64 0, .int .u8 0, .int .u8 0, .int .u8 0, .int .u8 0, .int .u8 0, .int .u8 0, .int .u8 0, .int .u8 0, .int .u8 0, .int .u8 0, .int .u8 0, .int .u8 0, .int .u8 0, .int .u8 0, .int .u8 0, .int .u8 0, .int .u8 0, .int .u8 0, .int .u8 0, .int .u8 0, .int .u8 0, .int .u8 0, .int .u8 0, .int .u8 0, .int .u8 0, .int .u8 0, .int .u8 0, .int .u8 0, .int .u8 0, .int .u8 0, .int .u8 0, .int .u8 0, .slice none 0 0, .bool false, .int .u32 0, .int .i64 0, .bool false, .int .i64 0, .string ⟨#[]⟩] : List Value).toArray 27)).setCells w8.heap.size 0 VQ = w9 at *
  generalize w8.heap.size = g10 at *
  have HK10 : Hid (Kp w w.heap.size [(g9, 35, X3), (g10, 27, VQ), (g7, 27, VQ), (w.heap.size + 1 + 1, 23, VT), (w.heap.size + 1, 23, VF), (w.heap.size, 35, VP)] w9) := Lib.hid ⟨fun x hx => HK9.out.1 x (by simp only [List.mem_cons, List.not_mem_nil, or_false] at hx ⊢; rcases hx with h | h | h | h | h | h <;> simp [h]), HK9.out.2⟩
  have hne : ∀ x ∈ ([(g10, 27, VQ), (g7, 27, VQ), (w.heap.size + 1 + 1, 23, VT), (w.heap.size + 1, 23, VF), (w.heap.size, 35, VP)] : List (Nat × TypeId × List Value)), x.1 ≠ g9 := by
    have hg := HG9.out
    intro x hx
    rcases List.mem_cons.1 hx with rfl | hx
    · show g10 ≠ g9; omega
    · exact HNE.out.1 x hx
  have HNF := Lib.hid hne
  clear hne HK9
  obtain ⟨uu, hu, hz⟩ := HK10.out.some1 15 (by have := HL_X3.out; omega)
  go_upto_region 11 with (fail)
  have hk := HK10.out.set1 HNF.out HNE.out.2 15 (.string ⟨#[]⟩)
  rw [HE4.out] at hk
  have HK11 := Lib.hid hk
  clear hk hu hz HK10
  generalize w9.setCell ⟨g9, 15, none⟩ (.string ⟨#[]⟩) = w11 at *
  have hr0 := HK11.out.hd.range
  have hr1 := HK11.out.tl.tl.tl.tl.hd.range
  have hr2 := HK11.out.tl.tl.tl.hd.range
  go_wp2_with (((with_reducible (change wpList _ _ _ _ _ _)); (first | (refine wpList_load_mid rfl 35 _ rfl (g9) 0 rfl (X4) _ hr0 Try.underlying35 rfl HI_X4.out ?_) | (refine wpList_load_mid rfl 23 _ rfl (w.heap.size + 1) 0 rfl (VF) _ hr1 Try.underlying23 rfl HI_VF.out ?_) | (refine wpList_load_mid rfl 23 _ rfl (w.heap.size + 1 + 1) 0 rfl (VT) _ hr2 Try.underlying23 rfl HI_VT.out ?_))))
  clear hr0 hr1 hr2
  refine (CI.out _).mono ?_
  rintro e w12 ⟨rfl, bb⟩
  have HK12 := Lib.hid (HK11.out.below bb (Nat.le_refl _))
  clear bb HK11
  have ht := (bk_new w12 27 ([.int .i64 0, .int .i64 0, .int .i64 0, .int .u8 0, .int .u8 0, .int .u8 0, .int .u8 0, .int .u8 0, .int .u8 0, .int .u8 0, .int .u8 0, .int .u8 0, .int .u8 0, .int .u8 0, .int .u8 0, .int .u8 0, .int .u8 0, .int .u8 0, .int .u8 0, .int .u8 0, .int .u8 0, .int .u8 0, .int .u8 0, .int .u8 0, .int .u8 0, .int .u8 0, .int .u8 0, .int .u8 0, .int .u8 0, .int .u8 0, .int .u8 0, .int .u8 0, .int .u8 0, .int .u8 0, .int .u8 0, .slice none 0 0, .bool false, .int .u32 0, .int .i64 0, .bool false, .int .i64 0, .string ⟨#[]⟩] : List Value).toArray).there VQ.toArray.size (by have := HL_VQ.out; simp; omega)
  go_upto_region 12 with (((with_reducible (change wpList _ _ _ _ _ _)); ((refine wpList_store_mid rfl 27 _ _ rfl (w12.heap.size) 0 VQ.toArray rfl rfl ht (by simpa using HI_VQ.out) HO_VQ.out ?_))))
  have HK13 := Lib.hid (HK12.out.put 27 ([.int .i64 0, .int .i64 0, .int .i64 0, .int .u8 0, .int .u8 0, .int .u8 0, .int .u8 0, .int .u8 0, .int .u8 0, .int .u8 0, .int .u8 0, .int .u8 0, .int .u8 0, .int .u8 0, .int .u8 0, .int .u8 0, .int .u8 0, .int .u8 0, .int .u8 0, .int .u8 0, .int .u8 0, .int .u8 0, .int .u8 0, .int .u8 0, .int .u8 0, .int .u8 0, .int .u8 0, .int .u8 0, .int .u8 0, .int .u8 0, .int .u8 0, .int .u8 0, .int .u8 0, .int .u8 0, .int .u8 0, .slice none 0 0, .bool false, .int .u32 0, .int .i64 0, .bool false, .int .i64 0, .string ⟨#[]⟩] : List Value).toArray VQ (by have := HL_VQ.out; simp; omega))
  clear ht HK12
  generalize (w12.alloc (.cells ([.int .i64 0, .int .i64 0, .int .i64 0, .int .u8 0, .int .u8 0, .int .u8 0, .int .u8 0, .int .u8 0, .int .u8 0, .int .u8 0, .int .u8 0, .int .u8 0, .int .u8 0, .int .u8 0, .int .u8 0, .int .u8 0, .int .u8 0, .int .u8 0, .int .u8 0, .int .u8 0, .int .u8 0, .int .u8 0, .int .u8 0, .int .u8 0, .int .u8 0, .int .u8 0, .int .u8 0, .int .u8 0, .int .u8 0, .int .u8 0, .int .u8 0, .int .u8 0, .int .u8 0, .int .u8 0, .int .u8 0, .slice none 0 0, .bool false, .int .u32 0, .int .i64 0, .bool false, .int .i64 0, .string ⟨#[]⟩] : List Value).toArray 27)).setCells w12.heap.size 0 VQ = w13 at *
  generalize w12.heap.size = g12 at *
  refine wp_region_noPanic ?_
  refine wp_region_held_drew (S := fun w' => Kp w w.heap.size [(g12, 27, VQ), (g9, 35, X4), (g10, 27, VQ), (g7, 27, VQ), (w.heap.size + 1 + 1, 23, VT), (w.heap.size + 1, 23, VF), (w.heap.size, 35, VP)] w') (by kernel_rfl) (HK13.out.drew) (fun hHeld => ?_)
  refine wpAnyH_take (i := 0) (oi := { dst := some 65, op := Op.move (Operand.tmp 8), type := 29, pos := "outright.go:45", after := #[], guard := none }) (v := ?_) rfl (by kernel_rfl) (by kernel_rfl) (by kernel_rfl) (fun _ _ _ h => h) (Or.inl ⟨by rfl, ?_⟩) (by assumption) ?_
  rotate_left
  · (intro ww hSw; (try dsimp only at hSw); go_simp; try with_reducible rfl)
  (try simp only [Act.put, List.setIfInBounds_toArray, List.set_cons_zero, List.set_cons_succ])
  refine wpAnyH_take (i := 1) (oi := { dst := some 66, op := Op.binOp BinOp.eql 29 (Operand.tmp 65) (Operand.const Value.nilIface) 29, type := 4, pos := "outright.go:45", after := #[{ on := 0, ground := Ground.data }], guard := none }) (v := ?_) rfl (by kernel_rfl) (by kernel_rfl) (by kernel_rfl) (fun _ _ _ h => h) (Or.inl ⟨by rfl, ?_⟩) (by assumption) ?_
  rotate_left
  · (intro ww hSw; (try dsimp only at hSw); go_simp; try with_reducible rfl)
  (try simp only [Act.put, List.setIfInBounds_toArray, List.set_cons_zero, List.set_cons_succ])
  refine wpAnyH_take (i := 2) (oi := { dst := some 67, op := Op.move (Operand.tmp 11), type := 29, pos := "outright.go:45", after := #[], guard := none }) (v := ?_) rfl (by kernel_rfl) (by kernel_rfl) (by kernel_rfl) (fun _ _ _ h => h) (Or.inl ⟨by rfl, ?_⟩) (by assumption) ?_
  rotate_left
  · (intro ww hSw; (try dsimp only at hSw); go_simp; try with_reducible rfl)
  (try simp only [Act.put, List.setIfInBounds_toArray, List.set_cons_zero, List.set_cons_succ])
  refine wpAnyH_take (i := 3) (oi := { dst := some 68, op := Op.binOp BinOp.eql 29 (Operand.tmp 67) (Operand.const Value.nilIface) 29, type := 4, pos := "outright.go:45", after := #[{ on := 2, ground := Ground.data }], guard := none }) (v := ?_) rfl (by kernel_rfl) (by kernel_rfl) (by kernel_rfl) (fun _ _ _ h => h) (Or.inl ⟨by rfl, ?_⟩) (by assumption) ?_
  rotate_left
  · (intro ww hSw; (try dsimp only at hSw); go_simp; try with_reducible rfl)
  (try simp only [Act.put, List.setIfInBounds_toArray, List.set_cons_zero, List.set_cons_succ])
  refine wpAnyH_take (i := 4) (oi := { dst := some 69, op := Op.binOp BinOp.neq 4 (Operand.tmp 66) (Operand.tmp 68) 4, type := 4, pos := "outright.go:45", after := #[{ on := 1, ground := Ground.data }, { on := 3, ground := Ground.data }], guard := none }) (v := ?_) rfl (by kernel_rfl) (by kernel_rfl) (by kernel_rfl) (fun _ _ _ h => h) (Or.inl ⟨by rfl, ?_⟩) (by assumption) ?_
  rotate_left
  · (intro ww hSw; (try dsimp only at hSw); go_simp; try with_reducible rfl)
  (try simp only [Act.put, List.setIfInBounds_toArray, List.set_cons_zero, List.set_cons_succ])
  refine wpAnyH_take (i := 5) (oi := { dst := some 70, op := Op.move (Operand.tmp 69), type := 4, pos := "outright.go:45", after := #[{ on := 4, ground := Ground.data }], guard := none }) (v := ?_) rfl (by kernel_rfl) (by kernel_rfl) (by kernel_rfl) (fun _ _ _ h => h) (Or.inl ⟨by rfl, ?_⟩) (by assumption) ?_
  rotate_left
  · (intro ww hSw; (try dsimp only at hSw); go_simp; try with_reducible rfl)
  (try simp only [Act.put, List.setIfInBounds_toArray, List.set_cons_zero, List.set_cons_succ])
  refine wpAnyH_take (i := 6) (oi := { dst := some 71, op := Op.move (Operand.tmp 8), type := 29, pos := "outright.go:45", after := #[{ on := 5, ground := Ground.guard }], guard := some (5, false) }) (v := ?_) rfl (by kernel_rfl) (by kernel_rfl) (by kernel_rfl) (fun _ _ _ h => h) (Or.inl ⟨by rfl, ?_⟩) (by assumption) ?_
  rotate_left
  · (intro ww hSw; (try dsimp only at hSw); go_simp; try with_reducible rfl)
  (try simp only [Act.put, List.setIfInBounds_toArray, List.set_cons_zero, List.set_cons_succ])
  refine wpAnyH_take (i := 7) (oi := { dst := some 72, op := Op.binOp BinOp.eql 29 (Operand.tmp 71) (Operand.const Value.nilIface) 29, type := 4, pos := "outright.go:45", after := #[{ on := 6, ground := Ground.data }, { on := 5, ground := Ground.guard }], guard := some (5, false) }) (v := ?_) rfl (by kernel_rfl) (by kernel_rfl) (by kernel_rfl) (fun _ _ _ h => h) (Or.inl ⟨by rfl, ?_⟩) (by assumption) ?_
  rotate_left
  · (intro ww hSw; (try dsimp only at hSw); go_simp; try with_reducible rfl)
  (try simp only [Act.put, List.setIfInBounds_toArray, List.set_cons_zero, List.set_cons_succ])
  refine wpAnyH_take (i := 8) (oi := { dst := some 73, op := Op.move (Operand.tmp 72), type := 4, pos := "outright.go:45", after := #[{ on := 7, ground := Ground.data }, { on := 5, ground := Ground.chain }, { on := 5, ground := Ground.guard }], guard := some (5, false) }) (v := ?_) rfl (by kernel_rfl) (by kernel_rfl) (by kernel_rfl) (fun _ _ _ h => h) (Or.inl ⟨by rfl, ?_⟩) (by assumption) ?_
  rotate_left
  · (intro ww hSw; (try dsimp only at hSw); go_simp; try with_reducible rfl)
  (try simp only [Act.put, List.setIfInBounds_toArray, List.set_cons_zero, List.set_cons_succ])
  refine wpAnyH_take (i := 9) (oi := { dst := some 74, op := Op.move (Operand.tmp 13), type := 29, pos := "outright.go:45", after := #[{ on := 8, ground := Ground.guard }], guard := some (8, true) }) (v := ?_) rfl (by kernel_rfl) (by kernel_rfl) (by kernel_rfl) (fun _ _ _ h => h) (Or.inl ⟨by rfl, ?_⟩) (by assumption) ?_
  rotate_left
  · (intro ww hSw; (try dsimp only at hSw); go_simp; try with_reducible rfl)
  (try simp only [Act.put, List.setIfInBounds_toArray, List.set_cons_zero, List.set_cons_succ])
  refine wpAnyH_take (i := 10) (oi := { dst := some 75, op := Op.binOp BinOp.neq 29 (Operand.tmp 74) (Operand.const Value.nilIface) 29, type := 4, pos := "outright.go:45", after := #[{ on := 9, ground := Ground.data }, { on := 8, ground := Ground.guard }], guard := some (8, true) }) (v := ?_) rfl (by kernel_rfl) (by kernel_rfl) (by kernel_rfl) (fun _ _ _ h => h) (Or.inl ⟨by rfl, ?_⟩) (by assumption) ?_
  rotate_left
  · (intro ww hSw; (try dsimp only at hSw); go_simp; try with_reducible rfl)
  (try simp only [Act.put, List.setIfInBounds_toArray, List.set_cons_zero, List.set_cons_succ])
  refine wpAnyH_take (i := 11) (oi := { dst := some 76, op := Op.pick (Operand.tmp 73) (Operand.tmp 75) (Operand.const (Value.bool false)), type := 4, pos := "outright.go:45", after := #[{ on := 8, ground := Ground.data }, { on := 10, ground := Ground.data }, { on := 5, ground := Ground.guard }], guard := some (5, false) }) (v := ?_) rfl (by kernel_rfl) (by kernel_rfl) (by kernel_rfl) (fun _ _ _ h => h) (Or.inl ⟨by rfl, ?_⟩) (by assumption) ?_
  rotate_left
  · (intro ww hSw; (try dsimp only at hSw); go_simp; try with_reducible rfl)
  (try simp only [Act.put, List.setIfInBounds_toArray, List.set_cons_zero, List.set_cons_succ])
  refine wpAnyH_take (i := 12) (oi := { dst := some 77, op := Op.pick (Operand.tmp 70) (Operand.const (Value.bool true)) (Operand.tmp 76), type := 4, pos := "outright.go:45", after := #[{ on := 5, ground := Ground.data }, { on := 11, ground := Ground.data }], guard := none }) (v := ?_) rfl (by kernel_rfl) (by kernel_rfl) (by kernel_rfl) (fun _ _ _ h => h) (Or.inl ⟨by rfl, ?_⟩) (by assumption) ?_
  rotate_left
  · (intro ww hSw; (try dsimp only at hSw); go_simp; try with_reducible rfl)
  (try simp only [Act.put, List.setIfInBounds_toArray, List.set_cons_zero, List.set_cons_succ])
  refine wpAnyH_done (by kernel_rfl) ?_ _
  refine NoPanic.normal ?_
  have HK14 : Hid (Kp w w.heap.size [(g12, 27, VQ), (g9, 35, X4), (g10, 27, VQ), (g7, 27, VQ), (w.heap.size + 1 + 1, 23, VT), (w.heap.size + 1, 23, VF), (w.heap.size, 35, VP)] w13.drew) := Lib.hid hHeld
  clear hHeld HK13
  generalize w13.drew = w14 at *
  have hr0 := HK14.out.tl.tl.tl.hd.range
  go_wp2_with (((with_reducible (change wpList _ _ _ _ _ _)); ((refine wpList_load_mid rfl 27 _ rfl (g7) 0 rfl (VQ) _ hr0 Try.underlying27 rfl HI_VQ.out ?_))))
  clear hr0
  refine (CB.out _).mono ?_
  rintro e w15 ⟨rfl, bb⟩
  have HK15 := Lib.hid (HK14.out.below bb (Nat.le_refl _))
  clear bb HK14
  have hr0 := HK15.out.tl.tl.hd.range
  go_wp2_with (((with_reducible (change wpList _ _ _ _ _ _)); ((refine wpList_load_mid rfl 27 _ rfl (g10) 0 rfl (VQ) _ hr0 Try.underlying27 rfl HI_VQ.out ?_))))
  clear hr0
  refine (CB.out _).mono ?_
  rintro e w16 ⟨rfl, bb⟩
  have HK16 := Lib.hid (HK15.out.below bb (Nat.le_refl _))
  clear bb HK15
  have hr0 := HK16.out.hd.range
  go_wp2_with (((with_reducible (change wpList _ _ _ _ _ _)); ((refine wpList_load_mid rfl 27 _ rfl (g12) 0 rfl (VQ) _ hr0 Try.underlying27 rfl HI_VQ.out ?_))))
  clear hr0
  refine (CB.out _).mono ?_
  rintro e w17 ⟨rfl, bb⟩
  have HK17 := Lib.hid (HK16.out.below bb (Nat.le_refl _))
  clear bb HK16
  go_upto_region 17 with (fail)
  refine wp_region_noPanic ?_
  refine wp_region_held_drew (S := fun w' => Kp w w.heap.size [(g12, 27, VQ), (g9, 35, X4), (g10, 27, VQ), (g7, 27, VQ), (w.heap.size + 1 + 1, 23, VT), (w.heap.size + 1, 23, VF), (w.heap.size, 35, VP)] w') (by kernel_rfl) (HK17.out.drew) (fun hHeld => ?_)
  refine wpAnyH_take (i := 0) (oi := { dst := some 93, op := Op.move (Operand.tmp 15), type := 29, pos := "outright.go:51", after := #[], guard := none }) (v := ?_) rfl (by kernel_rfl) (by kernel_rfl) (by kernel_rfl) (fun _ _ _ h => h) (Or.inl ⟨by rfl, ?_⟩) (by assumption) ?_
  rotate_left
  · (intro ww hSw; (try dsimp only at hSw); go_simp; try with_reducible rfl)
  (try simp only [Act.put, List.setIfInBounds_toArray, List.set_cons_zero, List.set_cons_succ])
  refine wpAnyH_take (i := 1) (oi := { dst := some 94, op := Op.binOp BinOp.eql 29 (Operand.tmp 93) (Operand.const Value.nilIface) 29, type := 4, pos := "outright.go:51", after := #[{ on := 0, ground := Ground.data }], guard := none }) (v := ?_) rfl (by kernel_rfl) (by kernel_rfl) (by kernel_rfl) (fun _ _ _ h => h) (Or.inl ⟨by rfl, ?_⟩) (by assumption) ?_
  rotate_left
  · (intro ww hSw; (try dsimp only at hSw); go_simp; try with_reducible rfl)
  (try simp only [Act.put, List.setIfInBounds_toArray, List.set_cons_zero, List.set_cons_succ])
  refine wpAnyH_take (i := 2) (oi := { dst := some 95, op := Op.move (Operand.tmp 17), type := 29, pos := "outright.go:51", after := #[], guard := none }) (v := ?_) rfl (by kernel_rfl) (by kernel_rfl) (by kernel_rfl) (fun _ _ _ h => h) (Or.inl ⟨by rfl, ?_⟩) (by assumption) ?_
  rotate_left
  · (intro ww hSw; (try dsimp only at hSw); go_simp; try with_reducible rfl)
  (try simp only [Act.put, List.setIfInBounds_toArray, List.set_cons_zero, List.set_cons_succ])
  refine wpAnyH_take (i := 3) (oi := { dst := some 96, op := Op.binOp BinOp.eql 29 (Operand.tmp 95) (Operand.const Value.nilIface) 29, type := 4, pos := "outright.go:51", after := #[{ on := 2, ground := Ground.data }], guard := none }) (v := ?_) rfl (by kernel_rfl) (by kernel_rfl) (by kernel_rfl) (fun _ _ _ h => h) (Or.inl ⟨by rfl, ?_⟩) (by assumption) ?_
  rotate_left
  · (intro ww hSw; (try dsimp only at hSw); go_simp; try with_reducible rfl)
  (try simp only [Act.put, List.setIfInBounds_toArray, List.set_cons_zero, List.set_cons_succ])
  refine wpAnyH_take (i := 4) (oi := { dst := some 97, op := Op.binOp BinOp.eql 4 (Operand.tmp 94) (Operand.tmp 96) 4, type := 4, pos := "outright.go:51", after := #[{ on := 1, ground := Ground.data }, { on := 3, ground := Ground.data }], guard := none }) (v := ?_) rfl (by kernel_rfl) (by kernel_rfl) (by kernel_rfl) (fun _ _ _ h => h) (Or.inl ⟨by rfl, ?_⟩) (by assumption) ?_
  rotate_left
  · (intro ww hSw; (try dsimp only at hSw); go_simp; try with_reducible rfl)
  (try simp only [Act.put, List.setIfInBounds_toArray, List.set_cons_zero, List.set_cons_succ])
  refine wpAnyH_take (i := 5) (oi := { dst := some 98, op := Op.move (Operand.tmp 97), type := 4, pos := "outright.go:51", after := #[{ on := 4, ground := Ground.data }], guard := none }) (v := ?_) rfl (by kernel_rfl) (by kernel_rfl) (by kernel_rfl) (fun _ _ _ h => h) (Or.inl ⟨by rfl, ?_⟩) (by assumption) ?_
  rotate_left
  · (intro ww hSw; (try dsimp only at hSw); go_simp; try with_reducible rfl)
  (try simp only [Act.put, List.setIfInBounds_toArray, List.set_cons_zero, List.set_cons_succ])
  refine wpAnyH_take (i := 6) (oi := { dst := some 99, op := Op.move (Operand.tmp 14), type := 9, pos := "outright.go:51", after := #[{ on := 5, ground := Ground.guard }], guard := some (5, true) }) (v := ?_) rfl (by kernel_rfl) (by kernel_rfl) (by kernel_rfl) (fun _ _ _ h => h) (Or.inl ⟨by rfl, ?_⟩) (by assumption) ?_
  rotate_left
  · (intro ww hSw; (try dsimp only at hSw); go_simp; try with_reducible rfl)
  (try simp only [Act.put, List.setIfInBounds_toArray, List.set_cons_zero, List.set_cons_succ])
  refine wpAnyH_take (i := 7) (oi := { dst := some 100, op := Op.move (Operand.tmp 16), type := 9, pos := "outright.go:51", after := #[{ on := 5, ground := Ground.guard }], guard := some (5, true) }) (v := ?_) rfl (by kernel_rfl) (by kernel_rfl) (by kernel_rfl) (fun _ _ _ h => h) (Or.inl ⟨by rfl, ?_⟩) (by assumption) ?_
  rotate_left
  · (intro ww hSw; (try dsimp only at hSw); go_simp; try with_reducible rfl)
  (try simp only [Act.put, List.setIfInBounds_toArray, List.set_cons_zero, List.set_cons_succ])
  refine wpAnyH_take (i := 8) (oi := { dst := some 101, op := Op.binOp BinOp.eql 9 (Operand.tmp 99) (Operand.tmp 100) 9, type := 4, pos := "outright.go:51", after := #[{ on := 6, ground := Ground.data }, { on := 7, ground := Ground.data }, { on := 5, ground := Ground.guard }], guard := some (5, true) }) (v := ?_) rfl (by kernel_rfl) (by kernel_rfl) (by kernel_rfl) (fun _ _ _ h => h) (Or.inl ⟨by rfl, ?_⟩) (by assumption) ?_
  rotate_left
  · (intro ww hSw; (try dsimp only at hSw); go_simp; try with_reducible rfl)
  (try simp only [Act.put, List.setIfInBounds_toArray, List.set_cons_zero, List.set_cons_succ])
  refine wpAnyH_take (i := 9) (oi := { dst := some 102, op := Op.pick (Operand.tmp 98) (Operand.tmp 101) (Operand.const (Value.bool false)), type := 4, pos := "outright.go:51", after := #[{ on := 5, ground := Ground.data }, { on := 8, ground := Ground.data }], guard := none }) (v := ?_) rfl (by kernel_rfl) (by kernel_rfl) (by kernel_rfl) (fun _ _ _ h => h) (Or.inl ⟨by rfl, ?_⟩) (by assumption) ?_
  rotate_left
  · (intro ww hSw; (try dsimp only at hSw); go_simp; try with_reducible rfl)
  (try simp only [Act.put, List.setIfInBounds_toArray, List.set_cons_zero, List.set_cons_succ])
  refine wpAnyH_take (i := 10) (oi := { dst := some 103, op := Op.move (Operand.tmp 102), type := 4, pos := "outright.go:51", after := #[{ on := 9, ground := Ground.data }, { on := 5, ground := Ground.chain }], guard := none }) (v := ?_) rfl (by kernel_rfl) (by kernel_rfl) (by kernel_rfl) (fun _ _ _ h => h) (Or.inl ⟨by rfl, ?_⟩) (by assumption) ?_
  rotate_left
  · (intro ww hSw; (try dsimp only at hSw); go_simp; try with_reducible rfl)
  (try simp only [Act.put, List.setIfInBounds_toArray, List.set_cons_zero, List.set_cons_succ])
  refine wpAnyH_take (i := 11) (oi := { dst := some 104, op := Op.move (Operand.tmp 8), type := 29, pos := "outright.go:51", after := #[{ on := 10, ground := Ground.guard }], guard := some (10, true) }) (v := ?_) rfl (by kernel_rfl) (by kernel_rfl) (by kernel_rfl) (fun _ _ _ h => h) (Or.inl ⟨by rfl, ?_⟩) (by assumption) ?_
  rotate_left
  · (intro ww hSw; (try dsimp only at hSw); go_simp; try with_reducible rfl)
  (try simp only [Act.put, List.setIfInBounds_toArray, List.set_cons_zero, List.set_cons_succ])
  refine wpAnyH_take (i := 12) (oi := { dst := some 105, op := Op.binOp BinOp.neq 29 (Operand.tmp 104) (Operand.const Value.nilIface) 29, type := 4, pos := "outright.go:51", after := #[{ on := 11, ground := Ground.data }, { on := 10, ground := Ground.guard }], guard := some (10, true) }) (v := ?_) rfl (by kernel_rfl) (by kernel_rfl) (by kernel_rfl) (fun _ _ _ h => h) (Or.inl ⟨by rfl, ?_⟩) (by assumption) ?_
  rotate_left
  · (intro ww hSw; (try dsimp only at hSw); go_simp; try with_reducible rfl)
  (try simp only [Act.put, List.setIfInBounds_toArray, List.set_cons_zero, List.set_cons_succ])
  refine wpAnyH_take (i := 13) (oi := { dst := some 106, op := Op.move (Operand.tmp 105), type := 4, pos := "outright.go:51", after := #[{ on := 12, ground := Ground.data }, { on := 10, ground := Ground.chain }, { on := 10, ground := Ground.guard }], guard := some (10, true) }) (v := ?_) rfl (by kernel_rfl) (by kernel_rfl) (by kernel_rfl) (fun _ _ _ h => h) (Or.inl ⟨by rfl, ?_⟩) (by assumption) ?_
  rotate_left
  · (intro ww hSw; (try dsimp only at hSw); go_simp; try with_reducible rfl)
  (try simp only [Act.put, List.setIfInBounds_toArray, List.set_cons_zero, List.set_cons_succ])
  refine wpAnyH_take (i := 14) (oi := { dst := some 107, op := Op.move (Operand.tmp 15), type := 29, pos := "outright.go:51", after := #[{ on := 13, ground := Ground.guard }], guard := some (13, false) }) (v := ?_) rfl (by kernel_rfl) (by kernel_rfl) (by kernel_rfl) (fun _ _ _ h => h) (Or.inl ⟨by rfl, ?_⟩) (by assumption) ?_
  rotate_left
  · (intro ww hSw; (try dsimp only at hSw); go_simp; try with_reducible rfl)
  (try simp only [Act.put, List.setIfInBounds_toArray, List.set_cons_zero, List.set_cons_succ])
  refine wpAnyH_take (i := 15) (oi := { dst := some 108, op := Op.binOp BinOp.eql 29 (Operand.tmp 107) (Operand.const Value.nilIface) 29, type := 4, pos := "outright.go:51", after := #[{ on := 14, ground := Ground.data }, { on := 13, ground := Ground.guard }], guard := some (13, false) }) (v := ?_) rfl (by kernel_rfl) (by kernel_rfl) (by kernel_rfl) (fun _ _ _ h => h) (Or.inl ⟨by rfl, ?_⟩) (by assumption) ?_
  rotate_left
  · (intro ww hSw; (try dsimp only at hSw); go_simp; try with_reducible rfl)
  (try simp only [Act.put, List.setIfInBounds_toArray, List.set_cons_zero, List.set_cons_succ])
  refine wpAnyH_take (i := 16) (oi := { dst := some 109, op := Op.move (Operand.tmp 19), type := 29, pos := "outright.go:51", after := #[{ on := 13, ground := Ground.guard }], guard := some (13, false) }) (v := ?_) rfl (by kernel_rfl) (by kernel_rfl) (by kernel_rfl) (fun _ _ _ h => h) (Or.inl ⟨by rfl, ?_⟩) (by assumption) ?_
  rotate_left
  · (intro ww hSw; (try dsimp only at hSw); go_simp; try with_reducible rfl)
  (try simp only [Act.put, List.setIfInBounds_toArray, List.set_cons_zero, List.set_cons_succ])
  refine wpAnyH_take (i := 17) (oi := { dst := some 110, op := Op.binOp BinOp.eql 29 (Operand.tmp 109) (Operand.const Value.nilIface) 29, type := 4, pos := "outright.go:51", after := #[{ on := 16, ground := Ground.data }, { on := 13, ground := Ground.guard }], guard := some (13, false) }) (v := ?_) rfl (by kernel_rfl) (by kernel_rfl) (by kernel_rfl) (fun _ _ _ h => h) (Or.inl ⟨by rfl, ?_⟩) (by assumption) ?_
  rotate_left
  · (intro ww hSw; (try dsimp only at hSw); go_simp; try with_reducible rfl)
  (try simp only [Act.put, List.setIfInBounds_toArray, List.set_cons_zero, List.set_cons_succ])
  refine wpAnyH_take (i := 18) (oi := { dst := some 111, op := Op.binOp BinOp.eql 4 (Operand.tmp 108) (Operand.tmp 110) 4, type := 4, pos := "outright.go:51", after := #[{ on := 15, ground := Ground.data }, { on := 17, ground := Ground.data }, { on := 13, ground := Ground.guard }], guard := some (13, false) }) (v := ?_) rfl (by kernel_rfl) (by kernel_rfl) (by kernel_rfl) (fun _ _ _ h => h) (Or.inl ⟨by rfl, ?_⟩) (by assumption) ?_
  rotate_left
  · (intro ww hSw; (try dsimp only at hSw); go_simp; try with_reducible rfl)
  (try simp only [Act.put, List.setIfInBounds_toArray, List.set_cons_zero, List.set_cons_succ])
  refine wpAnyH_take (i := 19) (oi := { dst := some 112, op := Op.move (Operand.tmp 111), type := 4, pos := "outright.go:51", after := #[{ on := 18, ground := Ground.data }, { on := 13, ground := Ground.chain }, { on := 13, ground := Ground.guard }], guard := some (13, false) }) (v := ?_) rfl (by kernel_rfl) (by kernel_rfl) (by kernel_rfl) (fun _ _ _ h => h) (Or.inl ⟨by rfl, ?_⟩) (by assumption) ?_
  rotate_left
  · (intro ww hSw; (try dsimp only at hSw); go_simp; try with_reducible rfl)
  (try simp only [Act.put, List.setIfInBounds_toArray, List.set_cons_zero, List.set_cons_succ])
  refine wpAnyH_take (i := 20) (oi := { dst := some 113, op := Op.move (Operand.tmp 14), type := 9, pos := "outright.go:51", after := #[{ on := 19, ground := Ground.guard }], guard := some (19, true) }) (v := ?_) rfl (by kernel_rfl) (by kernel_rfl) (by kernel_rfl) (fun _ _ _ h => h) (Or.inl ⟨by rfl, ?_⟩) (by assumption) ?_
  rotate_left
  · (intro ww hSw; (try dsimp only at hSw); go_simp; try with_reducible rfl)
  (try simp only [Act.put, List.setIfInBounds_toArray, List.set_cons_zero, List.set_cons_succ])
  refine wpAnyH_take (i := 21) (oi := { dst := some 114, op := Op.move (Operand.tmp 18), type := 9, pos := "outright.go:51", after := #[{ on := 19, ground := Ground.guard }], guard := some (19, true) }) (v := ?_) rfl (by kernel_rfl) (by kernel_rfl) (by kernel_rfl) (fun _ _ _ h => h) (Or.inl ⟨by rfl, ?_⟩) (by assumption) ?_
  rotate_left
  · (intro ww hSw; (try dsimp only at hSw); go_simp; try with_reducible rfl)
  (try simp only [Act.put, List.setIfInBounds_toArray, List.set_cons_zero, List.set_cons_succ])
  refine wpAnyH_take (i := 22) (oi := { dst := some 115, op := Op.binOp BinOp.eql 9 (Operand.tmp 113) (Operand.tmp 114) 9, type := 4, pos := "outright.go:51", after := #[{ on := 20, ground := Ground.data }, { on := 21, ground := Ground.data }, { on := 19, ground := Ground.guard }], guard := some (19, true) }) (v := ?_) rfl (by kernel_rfl) (by kernel_rfl) (by kernel_rfl) (fun _ _ _ h => h) (Or.inl ⟨by rfl, ?_⟩) (by assumption) ?_
  rotate_left
  · (intro ww hSw; (try dsimp only at hSw); go_simp; try with_reducible rfl)
  (try simp only [Act.put, List.setIfInBounds_toArray, List.set_cons_zero, List.set_cons_succ])
  refine wpAnyH_take (i := 23) (oi := { dst := some 116, op := Op.pick (Operand.tmp 112) (Operand.tmp 115) (Operand.const (Value.bool false)), type := 4, pos := "outright.go:51", after := #[{ on := 19, ground := Ground.data }, { on := 22, ground := Ground.data }, { on := 13, ground := Ground.guard }], guard := some (13, false) }) (v := ?_) rfl (by kernel_rfl) (by kernel_rfl) (by kernel_rfl) (fun _ _ _ h => h) (Or.inl ⟨by rfl, ?_⟩) (by assumption) ?_
  rotate_left
  · (intro ww hSw; (try dsimp only at hSw); go_simp; try with_reducible rfl)
  (try simp only [Act.put, List.setIfInBounds_toArray, List.set_cons_zero, List.set_cons_succ])
  refine wpAnyH_take (i := 24) (oi := { dst := some 117, op := Op.pick (Operand.tmp 106) (Operand.const (Value.bool true)) (Operand.tmp 116), type := 4, pos := "outright.go:51", after := #[{ on := 13, ground := Ground.data }, { on := 23, ground := Ground.data }, { on := 10, ground := Ground.guard }], guard := some (10, true) }) (v := ?_) rfl (by kernel_rfl) (by kernel_rfl) (by kernel_rfl) (fun _ _ _ h => h) (Or.inl ⟨by rfl, ?_⟩) (by assumption) ?_
  rotate_left
  · (intro ww hSw; (try dsimp only at hSw); go_simp; try with_reducible rfl)
  (try simp only [Act.put, List.setIfInBounds_toArray, List.set_cons_zero, List.set_cons_succ])
  refine wpAnyH_take (i := 25) (oi := { dst := some 118, op := Op.pick (Operand.tmp 103) (Operand.tmp 117) (Operand.const (Value.bool false)), type := 4, pos := "outright.go:51", after := #[{ on := 10, ground := Ground.data }, { on := 24, ground := Ground.data }], guard := none }) (v := ?_) rfl (by kernel_rfl) (by kernel_rfl) (by kernel_rfl) (fun _ _ _ h => h) (Or.inl ⟨by rfl, ?_⟩) (by assumption) ?_
  rotate_left
  · (intro ww hSw; (try dsimp only at hSw); go_simp; try with_reducible rfl)
  (try simp only [Act.put, List.setIfInBounds_toArray, List.set_cons_zero, List.set_cons_succ])
  refine wpAnyH_take (i := 26) (oi := { dst := some 6, op := Op.assign (Operand.tmp 118), type := 4, pos := "outright.go:51", after := #[{ on := 25, ground := Ground.data }, { on := 19, ground := Ground.chain }, { on := 0, ground := Ground.phase }, { on := 1, ground := Ground.phase }, { on := 2, ground := Ground.phase }, { on := 3, ground := Ground.phase }, { on := 4, ground := Ground.phase }, { on := 5, ground := Ground.phase }, { on := 6, ground := Ground.phase }, { on := 7, ground := Ground.phase }, { on := 8, ground := Ground.phase }, { on := 9, ground := Ground.phase }, { on := 10, ground := Ground.phase }, { on := 11, ground := Ground.phase }, { on := 12, ground := Ground.phase }, { on := 13, ground := Ground.phase }, { on := 14, ground := Ground.phase }, { on := 15, ground := Ground.phase }, { on := 16, ground := Ground.phase }, { on := 17, ground := Ground.phase }, { on := 18, ground := Ground.phase }, { on := 19, ground := Ground.phase }, { on := 20, ground := Ground.phase }, { on := 21, ground := Ground.phase }, { on := 22, ground := Ground.phase }, { on := 23, ground := Ground.phase }, { on := 24, ground := Ground.phase }, { on := 25, ground := Ground.phase }], guard := none }) (v := ?_) rfl (by kernel_rfl) (by kernel_rfl) (by kernel_rfl) (fun _ _ _ h => h) (Or.inl ⟨by rfl, ?_⟩) (by assumption) ?_
  rotate_left
  · (intro ww hSw; (try dsimp only at hSw); go_simp; try with_reducible rfl)
  (try simp only [Act.put, List.setIfInBounds_toArray, List.set_cons_zero, List.set_cons_succ])
  refine wpAnyH_done (by kernel_rfl) ?_ _
  refine NoPanic.normal ?_
  have HE := Lib.hid hHeld.2.1
  clear hHeld
  go_wp2_with (fail)
  go_ret
  refine ⟨?_, HE.out⟩
  first | rfl | simp

set_option maxRecDepth 100000 in
set_option maxHeartbeats 4000000 in
theorem blind_mainB (p : P4.Pkt) (F T : List UInt8) (hF : F.length = 16) (hT : T.length = 16) (w : World) (hd : ¬ (70000 : Int) < (p.data.size : Int)) (ho : ¬ (1000 : Int) < (p.opts.size : Int)) (hh : hcode p = 0) (hw : (h46 p F T hF hT).why ≠ 0) :
    Calls Try.prog 6 #[.agg p.vals.toArray, .agg (bytV F).toArray, .agg (bytV T).toArray] w fun e w' => e = .returned (.bool true) ∧ Below w.heap.size w w' := by
  obtain ⟨VQ, hVQ⟩ : ∃ V, V = (h46 p F T hF hT).vals (.slice none 0 0) := ⟨_, rfl⟩
  have CH : Hid (∀ W, Calls Try.prog 7 #[.agg p.vals.toArray, .agg (bytV F).toArray, .agg (bytV T).toArray] W fun e w' =>  e = .returned (.tuple #[.agg VQ.toArray, .nilIface]) ∧ Below W.heap.size W w') := Lib.hid (fun W => by
    refine (head_any p F T hF hT W).mono ?_
    rintro e w' ⟨x, rfl, her, b⟩
    rcases her with ⟨_, rfl⟩ | ⟨h, _⟩
    · exact ⟨by rw [hVQ, hout_ok hh] <;> rfl, b⟩
    · exact absurd hh h)
  have CG : Hid (∀ W, Calls Try.prog 7 #[.agg (turn3 p).vals.toArray, .agg (bytV F).toArray, .agg (bytV T).toArray] W fun e w' =>  e = .returned (.tuple #[.agg VQ.toArray, .nilIface]) ∧ Below W.heap.size W w') := Lib.hid (fun W => by
    refine (head_any (turn3 p) F T hF hT W).mono ?_
    rintro e w' ⟨x, rfl, her, b⟩
    rcases her with ⟨_, rfl⟩ | ⟨h, _⟩
    · exact ⟨by rw [hVQ, hout_ok ((turn3_code p).trans hh)] <;> rfl, b⟩
    · exact absurd ((turn3_code p).trans hh) h)
  have CI : Hid (∀ W, Calls Try.prog 7 #[.agg (turn4 p).vals.toArray, .agg (bytV F).toArray, .agg (bytV T).toArray] W fun e w' =>  e = .returned (.tuple #[.agg VQ.toArray, .nilIface]) ∧ Below W.heap.size W w') := Lib.hid (fun W => by
    refine (head_any (turn4 p) F T hF hT W).mono ?_
    rintro e w' ⟨x, rfl, her, b⟩
    rcases her with ⟨_, rfl⟩ | ⟨h, _⟩
    · exact ⟨by rw [hVQ, hout_ok (turn4_code hh)] <;> rfl, b⟩
    · exact absurd (turn4_code hh) h)
  have CB : Hid (∀ W, Calls Try.prog 15 #[.agg VQ.toArray] W fun e w' =>  ∃ f : Nat, e = .returned (.tuple #[.string ⟨#[]⟩, .iface 50 (.pointer (some ⟨f, 0, none⟩))]) ∧ Below W.heap.size W w') := Lib.hid (fun W => by
    rw [hVQ]
    refine (bytes_bad _ _ W (exs_nil W) (h46_sm (by omega)) (by rw [bne_iff_ne]; exact hw)).mono ?_
    rintro e w' ⟨f, rfl, _, _, b⟩
    exact ⟨f, rfl, b⟩)
  have HI_VQ : Hid ((Try.prog.info? 27).map (·.size) = some (VQ).length) := Lib.hid (by rw [hVQ]; exact Try.info6 _ _)
  have HO_VQ : Hid ((VQ).toArray.all (·.oneCell') = true) := Lib.hid (by rw [hVQ]; exact vals_one _ _ rfl)
  have HL_VQ : Hid ((VQ).length = 42) := Lib.hid (by rw [hVQ]; exact vals_len _ _)
  clear hVQ hh hw
  have HI_X1 : Hid ((Try.prog.info? 35).map (·.size) = some ((turn1 p).vals).length) := Lib.hid (P4.Try.infoIp _)
  have HO_X1 : Hid (((turn1 p).vals).toArray.all (·.oneCell') = true) := Lib.hid (P4.vals_one _)
  have HL_X1 : Hid (((turn1 p).vals).length = 17) := Lib.hid rfl
  have HI_X2 : Hid ((Try.prog.info? 35).map (·.size) = some ((turn2 p).vals).length) := Lib.hid (P4.Try.infoIp _)
  have HO_X2 : Hid (((turn2 p).vals).toArray.all (·.oneCell') = true) := Lib.hid (P4.vals_one _)
  have HL_X2 : Hid (((turn2 p).vals).length = 17) := Lib.hid rfl
  have HI_X3 : Hid ((Try.prog.info? 35).map (·.size) = some ((turn3 p).vals).length) := Lib.hid (P4.Try.infoIp _)
  have HO_X3 : Hid (((turn3 p).vals).toArray.all (·.oneCell') = true) := Lib.hid (P4.vals_one _)
  have HL_X3 : Hid (((turn3 p).vals).length = 17) := Lib.hid rfl
  have HI_X4 : Hid ((Try.prog.info? 35).map (·.size) = some ((turn4 p).vals).length) := Lib.hid (P4.Try.infoIp _)
  have HO_X4 : Hid (((turn4 p).vals).toArray.all (·.oneCell') = true) := Lib.hid (P4.vals_one _)
  have HL_X4 : Hid (((turn4 p).vals).length = 17) := Lib.hid rfl
  have HE1 : Hid (p.vals.set 5 (.bool (!p.df)) = (turn1 p).vals) := Lib.hid rfl
  have HE2 : Hid (puts (turn1 p).vals.toArray 7 ([.int .u8 p.b0, .int .u8 p.b1, .int .u8 p.b2, .int .u8 p.b3] : List Value) = (turn2 p).vals.toArray) := Lib.hid rfl
  have HE3 : Hid (puts (turn2 p).vals.toArray 11 ([.int .u8 p.a0, .int .u8 p.a1, .int .u8 p.a2, .int .u8 p.a3] : List Value) = (turn3 p).vals.toArray) := Lib.hid rfl
  have HE4 : Hid ((turn3 p).vals.set 15 (.string ⟨#[]⟩) = (turn4 p).vals) := Lib.hid rfl
  have HRG : Hid (∀ (W : World) (b : Nat), Bk W b 35 p.vals.toArray → W.rangeAt b 7 ([.int .u8 p.a0, .int .u8 p.a1, .int .u8 p.a2, .int .u8 p.a3] : List Value) ∧ W.rangeAt b 11 ([.int .u8 p.b0, .int .u8 p.b1, .int .u8 p.b2, .int .u8 p.b3] : List Value)) := Lib.hid (fun W b h => pkt_ranges p h)
  have HI_VA : Hid ((Try.prog.info? 33).map (·.size) = some (([.int .u8 p.a0, .int .u8 p.a1, .int .u8 p.a2, .int .u8 p.a3] : List Value)).length) := Lib.hid (Try.infoV4c _ _ _ _)
  have HO_VA : Hid ((([.int .u8 p.a0, .int .u8 p.a1, .int .u8 p.a2, .int .u8 p.a3] : List Value)).toArray.all (·.oneCell') = true) := Lib.hid (by simp [Value.oneCell'])
  have HL_VA : Hid ((([.int .u8 p.a0, .int .u8 p.a1, .int .u8 p.a2, .int .u8 p.a3] : List Value)).length = 4) := Lib.hid rfl
  have HI_VB : Hid ((Try.prog.info? 33).map (·.size) = some (([.int .u8 p.b0, .int .u8 p.b1, .int .u8 p.b2, .int .u8 p.b3] : List Value)).length) := Lib.hid (Try.infoV4c _ _ _ _)
  have HO_VB : Hid ((([.int .u8 p.b0, .int .u8 p.b1, .int .u8 p.b2, .int .u8 p.b3] : List Value)).toArray.all (·.oneCell') = true) := Lib.hid (by simp [Value.oneCell'])
  have HL_VB : Hid ((([.int .u8 p.b0, .int .u8 p.b1, .int .u8 p.b2, .int .u8 p.b3] : List Value)).length = 4) := Lib.hid rfl
  generalize ([.int .u8 p.a0, .int .u8 p.a1, .int .u8 p.a2, .int .u8 p.a3] : List Value) = VA at *
  generalize ([.int .u8 p.b0, .int .u8 p.b1, .int .u8 p.b2, .int .u8 p.b3] : List Value) = VB at *
  generalize (turn1 p).vals = X1 at *
  generalize (turn2 p).vals = X2 at *
  generalize (turn3 p).vals = X3 at *
  generalize (turn4 p).vals = X4 at *
  have HI_VP : Hid ((Try.prog.info? 35).map (·.size) = some (p.vals).length) := Lib.hid (P4.Try.infoIp _)
  have HO_VP : Hid ((p.vals).toArray.all (·.oneCell') = true) := Lib.hid (P4.vals_one _)
  have HL_VP : Hid ((p.vals).length = 17) := Lib.hid rfl
  have HI_VF : Hid ((Try.prog.info? 23).map (·.size) = some (bytV F).length) := Lib.hid (Try.infoV6 _ hF)
  have HO_VF : Hid ((bytV F).toArray.all (·.oneCell') = true) := Lib.hid (by rw [List.all_toArray, List.all_eq_true]; exact bytV_one _)
  have HL_VF : Hid ((bytV F).length = 16) := Lib.hid (by rw [bytV_len]; exact hF)
  have HI_VT : Hid ((Try.prog.info? 23).map (·.size) = some (bytV T).length) := Lib.hid (Try.infoV6 _ hT)
  have HO_VT : Hid ((bytV T).toArray.all (·.oneCell') = true) := Lib.hid (by rw [List.all_toArray, List.all_eq_true]; exact bytV_one _)
  have HL_VT : Hid ((bytV T).length = 16) := Lib.hid (by rw [bytV_len]; exact hT)
  have HC_VP_0 : Hid (p.vals[0]? = some (.int .i64 p.tos)) := Lib.hid rfl
  have HC_VP_1 : Hid (p.vals[1]? = some (.int .i64 p.id)) := Lib.hid rfl
  have HC_VP_2 : Hid (p.vals[2]? = some (.int .i64 p.ttl)) := Lib.hid rfl
  have HC_VP_3 : Hid (p.vals[3]? = some (.int .i64 p.proto)) := Lib.hid rfl
  have HC_VP_4 : Hid (p.vals[4]? = some (.int .i64 p.pl)) := Lib.hid rfl
  have HC_VP_5 : Hid (p.vals[5]? = some (.bool p.df)) := Lib.hid rfl
  have HC_VP_6 : Hid (p.vals[6]? = some (.bool p.more)) := Lib.hid rfl
  have HC_VP_15 : Hid (p.vals[15]? = some (.string p.opts)) := Lib.hid rfl
  have HC_VP_16 : Hid (p.vals[16]? = some (.string p.data)) := Lib.hid rfl
  have HK1 : Hid (Kp w w.heap.size [(w.heap.size + 1 + 1, 23, bytV T), (w.heap.size + 1, 23, bytV F), (w.heap.size, 35, p.vals)] (((w.alloc (.cells p.vals.toArray 35)).alloc (.cells (bytV F).toArray 23)).alloc (.cells (bytV T).toArray 23))) := Lib.hid (by
    have h := ((Kp.start w).new 35 p.vals).new 23 (bytV F)
    have e1 : (w.alloc (.cells p.vals.toArray 35)).heap.size = w.heap.size + 1 := by simp
    have e2 : ((w.alloc (.cells p.vals.toArray 35)).alloc (.cells (bytV F).toArray 23)).heap.size = w.heap.size + 1 + 1 := by simp
    rw [e1] at h
    have h2 := h.new 23 (bytV T)
    rwa [e2] at h2)
  generalize p.vals = VP at *
  generalize bytV F = VF at *
  generalize bytV T = VT at *
  generalize hw1 : ((w.alloc (.cells VP.toArray 35)).alloc (.cells VF.toArray 23)).alloc (.cells VT.toArray 23) = w1 at *
  go_enter Try.func6, Try.ntmps6
  go_upto_region 1 with (fail)
  clear hw1
  go_wp2_with (fail)
  refine (awake_true _).mono ?_
  rintro e w2 ⟨rfl, bb⟩
  have HK2 := Lib.hid (HK1.out.below bb (Nat.le_refl _))
  clear bb HK1
  have c16 : w2.cell? ⟨w.heap.size, 16, none⟩ = some (.string p.data) := HK2.out.tl.tl.hd.at HC_VP_16.out
  have c15 : w2.cell? ⟨w.heap.size, 15, none⟩ = some (.string p.opts) := HK2.out.tl.tl.hd.at HC_VP_15.out
  go_upto_region 5 with (fail)
  clear c16 c15
  have hr0 := HK2.out.tl.tl.hd.range
  have hr1 := HK2.out.tl.hd.range
  have hr2 := HK2.out.hd.range
  go_wp2_with (((with_reducible (change wpList _ _ _ _ _ _)); (first | (refine wpList_load_mid rfl 35 _ rfl (w.heap.size) 0 rfl (VP) _ hr0 Try.underlying35 rfl HI_VP.out ?_) | (refine wpList_load_mid rfl 23 _ rfl (w.heap.size + 1) 0 rfl (VF) _ hr1 Try.underlying23 rfl HI_VF.out ?_) | (refine wpList_load_mid rfl 23 _ rfl (w.heap.size + 1 + 1) 0 rfl (VT) _ hr2 Try.underlying23 rfl HI_VT.out ?_))))
  clear hr0 hr1 hr2
  refine (CH.out _).mono ?_
  rintro e w3 ⟨rfl, bb⟩
  have HK3 := Lib.hid (HK2.out.below bb (Nat.le_refl _))
  clear bb HK2
  have ht := (bk_new w3 27 ([.int .i64 0, .int .i64 0, .int .i64 0, .int .u8 0, .int .u8 0, .int .u8 0, .int .u8 0, .int .u8 0, .int .u8 0, .int .u8 0, .int .u8 0, .int .u8 0, .int .u8 0, .int .u8 0, .int .u8 0, .int .u8 0, .int .u8 0, .int .u8 0, .int .u8 0, .int .u8 0, .int .u8 0, .int .u8 0, .int .u8 0, .int .u8 0, .int .u8 0, .int .u8 0, .int .u8 0, .int .u8 0, .int .u8 0, .int .u8 0, .int .u8 0, .int .u8 0, .int .u8 0, .int .u8 0, .int .u8 0, .slice none 0 0, .bool false, .int .u32 0, .int .i64 0, .bool false, .int .i64 0, .string ⟨#[]⟩] : List Value).toArray).there VQ.toArray.size (by have := HL_VQ.out; simp; omega)
  go_upto_region 6 with (((with_reducible (change wpList _ _ _ _ _ _)); ((refine wpList_store_mid rfl 27 _ _ rfl (w3.heap.size) 0 VQ.toArray rfl rfl ht (by simpa using HI_VQ.out) HO_VQ.out ?_))))
  have HK4 := Lib.hid (HK3.out.put 27 ([.int .i64 0, .int .i64 0, .int .i64 0, .int .u8 0, .int .u8 0, .int .u8 0, .int .u8 0, .int .u8 0, .int .u8 0, .int .u8 0, .int .u8 0, .int .u8 0, .int .u8 0, .int .u8 0, .int .u8 0, .int .u8 0, .int .u8 0, .int .u8 0, .int .u8 0, .int .u8 0, .int .u8 0, .int .u8 0, .int .u8 0, .int .u8 0, .int .u8 0, .int .u8 0, .int .u8 0, .int .u8 0, .int .u8 0, .int .u8 0, .int .u8 0, .int .u8 0, .int .u8 0, .int .u8 0, .int .u8 0, .slice none 0 0, .bool false, .int .u32 0, .int .i64 0, .bool false, .int .i64 0, .string ⟨#[]⟩] : List Value).toArray VQ (by have := HL_VQ.out; simp; omega))
  clear ht HK3
  generalize (w3.alloc (.cells ([.int .i64 0, .int .i64 0, .int .i64 0, .int .u8 0, .int .u8 0, .int .u8 0, .int .u8 0, .int .u8 0, .int .u8 0, .int .u8 0, .int .u8 0, .int .u8 0, .int .u8 0, .int .u8 0, .int .u8 0, .int .u8 0, .int .u8 0, .int .u8 0, .int .u8 0, .int .u8 0, .int .u8 0, .int .u8 0, .int .u8 0, .int .u8 0, .int .u8 0, .int .u8 0, .int .u8 0, .int .u8 0, .int .u8 0, .int .u8 0, .int .u8 0, .int .u8 0, .int .u8 0, .int .u8 0, .int .u8 0, .slice none 0 0, .bool false, .int .u32 0, .int .i64 0, .bool false, .int .i64 0, .string ⟨#[]⟩] : List Value).toArray 27)).setCells w3.heap.size 0 VQ = w4 at *
  generalize w3.heap.size = g7 at *
  have HG7 : Hid (g7 < w4.heap.size ∧ w.heap.size + 1 + 1 < w4.heap.size) := Lib.hid ⟨HK4.out.hd.lt, HK4.out.tl.hd.lt⟩
  have hr0 := HK4.out.tl.tl.tl.hd.range
  have ht := (bk_new w4 35 ([.int .i64 0, .int .i64 0, .int .i64 0, .int .i64 0, .int .i64 0, .bool false, .bool false, .int .u8 0, .int .u8 0, .int .u8 0, .int .u8 0, .int .u8 0, .int .u8 0, .int .u8 0, .int .u8 0, .string ⟨#[]⟩, .string ⟨#[]⟩] : List Value).toArray).there VP.toArray.size (by have := HL_VP.out; simp; omega)
  go_upto_region 7 with (((with_reducible (change wpList _ _ _ _ _ _)); (first | (refine wpList_load_mid rfl 35 _ rfl (w.heap.size) 0 rfl (VP) _ hr0 Try.underlying35 rfl HI_VP.out ?_) | (refine wpList_store_mid rfl 35 _ _ rfl (w4.heap.size) 0 VP.toArray rfl rfl ht (by simpa using HI_VP.out) HO_VP.out ?_))))
  have HK5 := Lib.hid (HK4.out.put 35 ([.int .i64 0, .int .i64 0, .int .i64 0, .int .i64 0, .int .i64 0, .bool false, .bool false, .int .u8 0, .int .u8 0, .int .u8 0, .int .u8 0, .int .u8 0, .int .u8 0, .int .u8 0, .int .u8 0, .string ⟨#[]⟩, .string ⟨#[]⟩] : List Value).toArray VP (by have := HL_VP.out; simp; omega))
  clear ht HK4
  generalize (w4.alloc (.cells ([.int .i64 0, .int .i64 0, .int .i64 0, .int .i64 0, .int .i64 0, .bool false, .bool false, .int .u8 0, .int .u8 0, .int .u8 0, .int .u8 0, .int .u8 0, .int .u8 0, .int .u8 0, .int .u8 0, .string ⟨#[]⟩, .string ⟨#[]⟩] : List Value).toArray 35)).setCells w4.heap.size 0 VP = w5 at *
  generalize w4.heap.size = g9 at *
  clear hr0
  have hne : ∀ x ∈ ([(g7, 27, VQ), (w.heap.size + 1 + 1, 23, VT), (w.heap.size + 1, 23, VF), (w.heap.size, 35, VP)] : List (Nat × TypeId × List Value)), x.1 ≠ g9 := by
    have hg := HG7.out
    intro x hx
    simp only [List.mem_cons, List.not_mem_nil, or_false] at hx
    rcases hx with rfl | rfl | rfl | rfl <;> (show _ ≠ g9; omega)
  have hgB : w.heap.size ≤ g9 := by have := HG7.out; omega
  have HNE := Lib.hid (And.intro hne hgB)
  clear hne hgB
  have c5 : w5.cell? ⟨w.heap.size, 5, none⟩ = some (.bool p.df) := HK5.out.tl.tl.tl.tl.hd.at HC_VP_5.out
  obtain ⟨uu, hu, hz⟩ := HK5.out.some1 5 (by have := HL_VP.out; omega)
  go_upto_region 8 with (fail)
  have hk := HK5.out.set1 HNE.out.1 HNE.out.2 5 (.bool (!p.df))
  rw [HE1.out] at hk
  have HK6 := Lib.hid hk
  clear hk hu hz HK5 c5
  generalize w5.setCell ⟨g9, 5, none⟩ (.bool (!p.df)) = w6 at *
  have HKR : Hid (∀ W : World, Pst w w.heap.size [(g7, 27, VQ), (w.heap.size + 1 + 1, 23, VT), (w.heap.size + 1, 23, VF), (w.heap.size, 35, VP)] g9 35 17 W → (fun w' => Pst w w.heap.size [(g7, 27, VQ), (w.heap.size + 1 + 1, 23, VT), (w.heap.size + 1, 23, VF), (w.heap.size, 35, VP)] g9 35 17 w' ∧ w'.rangeAt (w.heap.size) 7 VA ∧ w'.rangeAt (w.heap.size) 11 VB) W) := Lib.hid (fun W k => ⟨k, HRG.out _ _ k.1.tl.tl.tl.hd⟩)
  refine wp_region_noPanic ?_
  refine wp_region_held_drew (S := fun w' => Pst w w.heap.size [(g7, 27, VQ), (w.heap.size + 1 + 1, 23, VT), (w.heap.size + 1, 23, VF), (w.heap.size, 35, VP)] g9 35 17 w' ∧ w'.rangeAt (w.heap.size) 7 VA ∧ w'.rangeAt (w.heap.size) 11 VB) (by kernel_rfl) (HKR.out _ (Pst.of HK6.out.drew HL_X1.out)) (fun hHeld => ?_)
  refine wpAnyH_take (i := 0) (oi := { dst := some 44, op := Op.fieldAddr 35 (Operand.tmp 3) 8, type := 0, pos := "outright.go:41", after := #[], guard := none }) (v := ?_) rfl (by kernel_rfl) (by kernel_rfl) (by kernel_rfl) (fun _ _ _ h => h) (Or.inl ⟨by rfl, ?_⟩) (by assumption) ?_
  rotate_left
  · (intro ww hSw; (try dsimp only at hSw); go_simp; try with_reducible rfl)
  (try simp only [Act.put, List.setIfInBounds_toArray, List.set_cons_zero, List.set_cons_succ])
  refine wpAnyH_take (i := 1) (oi := { dst := some 45, op := Op.load 33 (Operand.tmp 44), type := 33, pos := "outright.go:41", after := #[{ on := 0, ground := Ground.data }], guard := none }) (v := .agg (VB).toArray) rfl (by kernel_rfl) (by kernel_rfl) (by kernel_rfl) (fun _ _ _ h => h) (yieldsIf_load_mid (by rfl) _ _ rfl (w.heap.size) 11 rfl (VB) _ (fun ww hSw => hSw.2.2) Try.underlying33 rfl HI_VB.out) (by assumption) ?_
  (try simp only [Act.put, List.setIfInBounds_toArray, List.set_cons_zero, List.set_cons_succ])
  refine wpAnyH_take (i := 2) (oi := { dst := some 46, op := Op.fieldAddr 35 (Operand.tmp 3) 7, type := 0, pos := "outright.go:41", after := #[{ on := 5, ground := Ground.gcOnly Departure.lateStores }], guard := none }) (v := ?_) rfl (by kernel_rfl) (by kernel_rfl) (by kernel_rfl) (fun _ _ _ h => h) (Or.inl ⟨by rfl, ?_⟩) (by assumption) ?_
  rotate_left
  · (intro ww hSw; (try dsimp only at hSw); go_simp; try with_reducible rfl)
  (try simp only [Act.put, List.setIfInBounds_toArray, List.set_cons_zero, List.set_cons_succ])
  refine wpAnyH_take (i := 3) (oi := { dst := some 47, op := Op.load 33 (Operand.tmp 46), type := 33, pos := "outright.go:41", after := #[{ on := 2, ground := Ground.data }, { on := 5, ground := Ground.gcOnly Departure.lateStores }], guard := none }) (v := .agg (VA).toArray) rfl (by kernel_rfl) (by kernel_rfl) (by kernel_rfl) (fun _ _ _ h => h) (yieldsIf_load_mid (by rfl) _ _ rfl (w.heap.size) 7 rfl (VA) _ (fun ww hSw => hSw.2.1) Try.underlying33 rfl HI_VA.out) (by assumption) ?_
  (try simp only [Act.put, List.setIfInBounds_toArray, List.set_cons_zero, List.set_cons_succ])
  refine wpAnyH_take (i := 4) (oi := { dst := some 48, op := Op.fieldAddr 35 (Operand.tmp 9) 7, type := 0, pos := "outright.go:41", after := #[{ on := 0, ground := Ground.phase }, { on := 1, ground := Ground.phase }, { on := 2, ground := Ground.textOnly Departure.lateStores }, { on := 3, ground := Ground.textOnly Departure.lateStores }], guard := none }) (v := ?_) rfl (by kernel_rfl) (by kernel_rfl) (by kernel_rfl) (fun _ _ _ h => h) (Or.inl ⟨by rfl, ?_⟩) (by assumption) ?_
  rotate_left
  · (intro ww hSw; (try dsimp only at hSw); go_simp; try with_reducible rfl)
  (try simp only [Act.put, List.setIfInBounds_toArray, List.set_cons_zero, List.set_cons_succ])
  refine wpAnyH_ready (rs := [5]) (by kernel_rfl) (by simp) ?_
  refine AllReadyH.cons (o := { dst := none, op := Op.store 33 (Operand.tmp 48) (Operand.tmp 45), type := 0, pos := "outright.go:41", after := #[{ on := 4, ground := Ground.data }, { on := 1, ground := Ground.data }, { on := 0, ground := Ground.phase }, { on := 1, ground := Ground.phase }, { on := 2, ground := Ground.textOnly Departure.lateStores }, { on := 3, ground := Ground.textOnly Departure.lateStores }], guard := none }) rfl (fun K hK => ?_) AllReadyH.nil
  rw [if_pos (by rfl)]
  refine wp_store_mid 33 _ _ rfl g9 7 VB.toArray rfl rfl ((And.left hHeld).thereN 7 _ (by have := HL_VB.out; simp; omega)) (by simpa using HI_VB.out) HO_VB.out ?_
  refine hK.out _ _ (HKR.out _ ((And.left hHeld).sets HNE.out.1 HNE.out.2 7 VB)) (fun hHeld => ?_)
  clear hK K
  (try simp only [Act.put])
  refine wpAnyH_take (i := 6) (oi := { dst := some 49, op := Op.fieldAddr 35 (Operand.tmp 9) 8, type := 0, pos := "outright.go:41", after := #[{ on := 0, ground := Ground.phase }, { on := 1, ground := Ground.phase }, { on := 2, ground := Ground.phase }, { on := 3, ground := Ground.phase }, { on := 4, ground := Ground.phase }, { on := 5, ground := Ground.phase }], guard := none }) (v := ?_) rfl (by kernel_rfl) (by kernel_rfl) (by kernel_rfl) (fun _ _ _ h => h) (Or.inl ⟨by rfl, ?_⟩) (by assumption) ?_
  rotate_left
  · (intro ww hSw; (try dsimp only at hSw); go_simp; try with_reducible rfl)
  (try simp only [Act.put, List.setIfInBounds_toArray, List.set_cons_zero, List.set_cons_succ])
  refine wpAnyH_ready (rs := [7]) (by kernel_rfl) (by simp) ?_
  refine AllReadyH.cons (o := { dst := none, op := Op.store 33 (Operand.tmp 49) (Operand.tmp 47), type := 0, pos := "outright.go:41", after := #[{ on := 6, ground := Ground.data }, { on := 3, ground := Ground.data }, { on := 5, ground := Ground.chain }, { on := 0, ground := Ground.phase }, { on := 1, ground := Ground.phase }, { on := 2, ground := Ground.phase }, { on := 3, ground := Ground.phase }, { on := 4, ground := Ground.phase }, { on := 5, ground := Ground.phase }], guard := none }) rfl (fun K hK => ?_) AllReadyH.nil
  rw [if_pos (by rfl)]
  refine wp_store_mid 33 _ _ rfl g9 11 VA.toArray rfl rfl ((And.left hHeld).thereN 11 _ (by have := HL_VA.out; simp; omega)) (by simpa using HI_VA.out) HO_VA.out ?_
  refine hK.out _ _ (HKR.out _ ((And.left hHeld).sets HNE.out.1 HNE.out.2 11 VA)) (fun hHeld => ?_)
  clear hK K
  (try simp only [Act.put])
  refine wpAnyH_done (by kernel_rfl) ?_ _
  refine NoPanic.normal ?_
  have hkf := (HK6.out.drew.sets1 HNE.out.1 HNE.out.2 7 VB HE2.out).sets1 HNE.out.1 HNE.out.2 11 VA HE3.out
  have HK7 : Hid (Kp w w.heap.size [(g9, 35, X3), (g7, 27, VQ), (w.heap.size + 1 + 1, 23, VT), (w.heap.size + 1, 23, VF), (w.heap.size, 35, VP)] ((w6.drew.setCells g9 7 VB).setCells g9 11 VA)) := Lib.hid hkf
  clear hkf hHeld HK6
  generalize (w6.drew.setCells g9 7 VB).setCells g9 11 VA = w7 at *
  have hr0 := HK7.out.hd.range
  have hr1 := HK7.out.tl.tl.tl.hd.range
  have hr2 := HK7.out.tl.tl.hd.range
  go_wp2_with (((with_reducible (change wpList _ _ _ _ _ _)); (first | (refine wpList_load_mid rfl 35 _ rfl (g9) 0 rfl (X3) _ hr0 Try.underlying35 rfl HI_X3.out ?_) | (refine wpList_load_mid rfl 23 _ rfl (w.heap.size + 1) 0 rfl (VF) _ hr1 Try.underlying23 rfl HI_VF.out ?_) | (refine wpList_load_mid rfl 23 _ rfl (w.heap.size + 1 + 1) 0 rfl (VT) _ hr2 Try.underlying23 rfl HI_VT.out ?_))))
  clear hr0 hr1 hr2
  refine (CG.out _).mono ?_
  rintro e w8 ⟨rfl, bb⟩
  have HK8 := Lib.hid (HK7.out.below bb (Nat.le_refl _))
  clear bb HK7
  have HG9 : Hid (g9 < w8.heap.size) := Lib.hid HK8.out.hd.lt
  have ht := (bk_new w8 27 ([.int .i64 0, .int .i64 0, .int .i64 0, .int .u8 0, .int .u8 0, .int .u8 0, .int .u8 0, .int .u8 0, .int .u8 0, .int .u8 0, .int .u8 0, .int .u8 0, .int .u8 0, .int .u8 0, .int .u8 0, .int .u8 0, .int .u8 0, .int .u8 0, .int .u8 0, .int .u8 0, .int .u8 0, .int .u8 0, .int .u8 0, .int .u8 0, .int .u8 0, .int .u8 0, .int .u8 0, .int .u8 0, .int .u8 0, .int .u8 0, .int .u8 0, .int .u8 0, .int .u8 0, .int .u8 0, .int .u8 0, .slice none 0 0, .bool false, .int .u32 0, .int .i64 0, .bool false, .int .i64 0, .string ⟨#[]⟩] : List Value).toArray).there VQ.toArray.size (by have := HL_VQ.out; simp; omega)
  go_upto_region 10 with (((with_reducible (change wpList _ _ _ _ _ _)); ((refine wpList_store_mid rfl 27 _ _ rfl (w8.heap.size) 0 VQ.toArray rfl rfl ht (by simpa using HI_VQ.out) HO_VQ.out ?_))))
  have HK9 := Lib.hid (HK8.out.put 27 ([.int .i64 0, .int .i64 0, .int .i64 0, .int .u8 0, .int .u8 0, .int .u8 0, .int .u8 0, .int .u8 0, .int .u8 0, .int .u8 0, .int .u8 0, .int .u8 0, .int .u8 0, .int .u8 0, .int .u8 0, .int .u8 0, .int .u8 0, .int .u8 0, .int .u8 0, .int .u8 0, .int .u8 0, .int .u8 0, .int .u8 0, .int .u8 0, .int .u8 0, .int .u8 0, .int .u8 0, .int .u8 0, .int .u8 0, .int .u8 0, .int .u8 0, .int .u8 0, .int .u8 0, .int .u8 0, .int .u8 0, .slice none 0 0, .bool false, .int .u32 0, .int .i64 0, .bool false, .int .i64 0, .string ⟨#[]⟩] : List Value).toArray VQ (by have := HL_VQ.out; simp; omega))
  clear ht HK8
  generalize (w8.alloc (.cells ([.int .i64 0, .int .i64 0, .int .i64 0, .int .u8 0, .int .u8 0, .int .u8 0, .int .u8 0, .int .u8 0, .int .u8 0, .int .u8 0, .int .u8 0, .int .u8 0, .int .u8 0, .int .u8 0, .int .u8 0, .int .u8 0, .int .u8 0, .int .u8 0, .int .u8 0, .int .u8 0, .int .u8 0, .int .u8 0, .int .u8 0, .int .u8 0, .int .u8 0, .int .u8 0, .int .u8 0, .int .u8 0, .int .u8 0, .int .u8 0, .int .u8 0, .int .u8 0, .int .u8 0, .int .u8 0, .int .u8 0, .slice none 0 0, .bool false, .int .u32 0, .int .i64 0, .bool false, .int .i64 0, .string ⟨#[]⟩] : List Value).toArray 27)).setCells w8.heap.size 0 VQ = w9 at *
  generalize w8.heap.size = g10 at *
  have HK10 : Hid (Kp w w.heap.size [(g9, 35, X3), (g10, 27, VQ), (g7, 27, VQ), (w.heap.size + 1 + 1, 23, VT), (w.heap.size + 1, 23, VF), (w.heap.size, 35, VP)] w9) := Lib.hid ⟨fun x hx => HK9.out.1 x (by simp only [List.mem_cons, List.not_mem_nil, or_false] at hx ⊢; rcases hx with h | h | h | h | h | h <;> simp [h]), HK9.out.2⟩
  have hne : ∀ x ∈ ([(g10, 27, VQ), (g7, 27, VQ), (w.heap.size + 1 + 1, 23, VT), (w.heap.size + 1, 23, VF), (w.heap.size, 35, VP)] : List (Nat × TypeId × List Value)), x.1 ≠ g9 := by
    have hg := HG9.out
    intro x hx
    rcases List.mem_cons.1 hx with rfl | hx
    · show g10 ≠ g9; omega
    · exact HNE.out.1 x hx
  have HNF := Lib.hid hne
  clear hne HK9
  obtain ⟨uu, hu, hz⟩ := HK10.out.some1 15 (by have := HL_X3.out; omega)
  go_upto_region 11 with (fail)
  have hk := HK10.out.set1 HNF.out HNE.out.2 15 (.string ⟨#[]⟩)
  rw [HE4.out] at hk
  have HK11 := Lib.hid hk
  clear hk hu hz HK10
  generalize w9.setCell ⟨g9, 15, none⟩ (.string ⟨#[]⟩) = w11 at *
  have hr0 := HK11.out.hd.range
  have hr1 := HK11.out.tl.tl.tl.tl.hd.range
  have hr2 := HK11.out.tl.tl.tl.hd.range
  go_wp2_with (((with_reducible (change wpList _ _ _ _ _ _)); (first | (refine wpList_load_mid rfl 35 _ rfl (g9) 0 rfl (X4) _ hr0 Try.underlying35 rfl HI_X4.out ?_) | (refine wpList_load_mid rfl 23 _ rfl (w.heap.size + 1) 0 rfl (VF) _ hr1 Try.underlying23 rfl HI_VF.out ?_) | (refine wpList_load_mid rfl 23 _ rfl (w.heap.size + 1 + 1) 0 rfl (VT) _ hr2 Try.underlying23 rfl HI_VT.out ?_))))
  clear hr0 hr1 hr2
  refine (CI.out _).mono ?_
  rintro e w12 ⟨rfl, bb⟩
  have HK12 := Lib.hid (HK11.out.below bb (Nat.le_refl _))
  clear bb HK11
  have ht := (bk_new w12 27 ([.int .i64 0, .int .i64 0, .int .i64 0, .int .u8 0, .int .u8 0, .int .u8 0, .int .u8 0, .int .u8 0, .int .u8 0, .int .u8 0, .int .u8 0, .int .u8 0, .int .u8 0, .int .u8 0, .int .u8 0, .int .u8 0, .int .u8 0, .int .u8 0, .int .u8 0, .int .u8 0, .int .u8 0, .int .u8 0, .int .u8 0, .int .u8 0, .int .u8 0, .int .u8 0, .int .u8 0, .int .u8 0, .int .u8 0, .int .u8 0, .int .u8 0, .int .u8 0, .int .u8 0, .int .u8 0, .int .u8 0, .slice none 0 0, .bool false, .int .u32 0, .int .i64 0, .bool false, .int .i64 0, .string ⟨#[]⟩] : List Value).toArray).there VQ.toArray.size (by have := HL_VQ.out; simp; omega)
  go_upto_region 12 with (((with_reducible (change wpList _ _ _ _ _ _)); ((refine wpList_store_mid rfl 27 _ _ rfl (w12.heap.size) 0 VQ.toArray rfl rfl ht (by simpa using HI_VQ.out) HO_VQ.out ?_))))
  have HK13 := Lib.hid (HK12.out.put 27 ([.int .i64 0, .int .i64 0, .int .i64 0, .int .u8 0, .int .u8 0, .int .u8 0, .int .u8 0, .int .u8 0, .int .u8 0, .int .u8 0, .int .u8 0, .int .u8 0, .int .u8 0, .int .u8 0, .int .u8 0, .int .u8 0, .int .u8 0, .int .u8 0, .int .u8 0, .int .u8 0, .int .u8 0, .int .u8 0, .int .u8 0, .int .u8 0, .int .u8 0, .int .u8 0, .int .u8 0, .int .u8 0, .int .u8 0, .int .u8 0, .int .u8 0, .int .u8 0, .int .u8 0, .int .u8 0, .int .u8 0, .slice none 0 0, .bool false, .int .u32 0, .int .i64 0, .bool false, .int .i64 0, .string ⟨#[]⟩] : List Value).toArray VQ (by have := HL_VQ.out; simp; omega))
  clear ht HK12
  generalize (w12.alloc (.cells ([.int .i64 0, .int .i64 0, .int .i64 0, .int .u8 0, .int .u8 0, .int .u8 0, .int .u8 0, .int .u8 0, .int .u8 0, .int .u8 0, .int .u8 0, .int .u8 0, .int .u8 0, .int .u8 0, .int .u8 0, .int .u8 0, .int .u8 0, .int .u8 0, .int .u8 0, .int .u8 0, .int .u8 0, .int .u8 0, .int .u8 0, .int .u8 0, .int .u8 0, .int .u8 0, .int .u8 0, .int .u8 0, .int .u8 0, .int .u8 0, .int .u8 0, .int .u8 0, .int .u8 0, .int .u8 0, .int .u8 0, .slice none 0 0, .bool false, .int .u32 0, .int .i64 0, .bool false, .int .i64 0, .string ⟨#[]⟩] : List Value).toArray 27)).setCells w12.heap.size 0 VQ = w13 at *
  generalize w12.heap.size = g12 at *
  refine wp_region_noPanic ?_
  refine wp_region_held_drew (S := fun w' => Kp w w.heap.size [(g12, 27, VQ), (g9, 35, X4), (g10, 27, VQ), (g7, 27, VQ), (w.heap.size + 1 + 1, 23, VT), (w.heap.size + 1, 23, VF), (w.heap.size, 35, VP)] w') (by kernel_rfl) (HK13.out.drew) (fun hHeld => ?_)
  refine wpAnyH_take (i := 0) (oi := { dst := some 65, op := Op.move (Operand.tmp 8), type := 29, pos := "outright.go:45", after := #[], guard := none }) (v := ?_) rfl (by kernel_rfl) (by kernel_rfl) (by kernel_rfl) (fun _ _ _ h => h) (Or.inl ⟨by rfl, ?_⟩) (by assumption) ?_
  rotate_left
  · (intro ww hSw; (try dsimp only at hSw); go_simp; try with_reducible rfl)
  (try simp only [Act.put, List.setIfInBounds_toArray, List.set_cons_zero, List.set_cons_succ])
  refine wpAnyH_take (i := 1) (oi := { dst := some 66, op := Op.binOp BinOp.eql 29 (Operand.tmp 65) (Operand.const Value.nilIface) 29, type := 4, pos := "outright.go:45", after := #[{ on := 0, ground := Ground.data }], guard := none }) (v := ?_) rfl (by kernel_rfl) (by kernel_rfl) (by kernel_rfl) (fun _ _ _ h => h) (Or.inl ⟨by rfl, ?_⟩) (by assumption) ?_
  rotate_left
  · (intro ww hSw; (try dsimp only at hSw); go_simp; try with_reducible rfl)
  (try simp only [Act.put, List.setIfInBounds_toArray, List.set_cons_zero, List.set_cons_succ])
  refine wpAnyH_take (i := 2) (oi := { dst := some 67, op := Op.move (Operand.tmp 11), type := 29, pos := "outright.go:45", after := #[], guard := none }) (v := ?_) rfl (by kernel_rfl) (by kernel_rfl) (by kernel_rfl) (fun _ _ _ h => h) (Or.inl ⟨by rfl, ?_⟩) (by assumption) ?_
  rotate_left
  · (intro ww hSw; (try dsimp only at hSw); go_simp; try with_reducible rfl)
  (try simp only [Act.put, List.setIfInBounds_toArray, List.set_cons_zero, List.set_cons_succ])
  refine wpAnyH_take (i := 3) (oi := { dst := some 68, op := Op.binOp BinOp.eql 29 (Operand.tmp 67) (Operand.const Value.nilIface) 29, type := 4, pos := "outright.go:45", after := #[{ on := 2, ground := Ground.data }], guard := none }) (v := ?_) rfl (by kernel_rfl) (by kernel_rfl) (by kernel_rfl) (fun _ _ _ h => h) (Or.inl ⟨by rfl, ?_⟩) (by assumption) ?_
  rotate_left
  · (intro ww hSw; (try dsimp only at hSw); go_simp; try with_reducible rfl)
  (try simp only [Act.put, List.setIfInBounds_toArray, List.set_cons_zero, List.set_cons_succ])
  refine wpAnyH_take (i := 4) (oi := { dst := some 69, op := Op.binOp BinOp.neq 4 (Operand.tmp 66) (Operand.tmp 68) 4, type := 4, pos := "outright.go:45", after := #[{ on := 1, ground := Ground.data }, { on := 3, ground := Ground.data }], guard := none }) (v := ?_) rfl (by kernel_rfl) (by kernel_rfl) (by kernel_rfl) (fun _ _ _ h => h) (Or.inl ⟨by rfl, ?_⟩) (by assumption) ?_
  rotate_left
  · (intro ww hSw; (try dsimp only at hSw); go_simp; try with_reducible rfl)
  (try simp only [Act.put, List.setIfInBounds_toArray, List.set_cons_zero, List.set_cons_succ])
  refine wpAnyH_take (i := 5) (oi := { dst := some 70, op := Op.move (Operand.tmp 69), type := 4, pos := "outright.go:45", after := #[{ on := 4, ground := Ground.data }], guard := none }) (v := ?_) rfl (by kernel_rfl) (by kernel_rfl) (by kernel_rfl) (fun _ _ _ h => h) (Or.inl ⟨by rfl, ?_⟩) (by assumption) ?_
  rotate_left
  · (intro ww hSw; (try dsimp only at hSw); go_simp; try with_reducible rfl)
  (try simp only [Act.put, List.setIfInBounds_toArray, List.set_cons_zero, List.set_cons_succ])
  refine wpAnyH_take (i := 6) (oi := { dst := some 71, op := Op.move (Operand.tmp 8), type := 29, pos := "outright.go:45", after := #[{ on := 5, ground := Ground.guard }], guard := some (5, false) }) (v := ?_) rfl (by kernel_rfl) (by kernel_rfl) (by kernel_rfl) (fun _ _ _ h => h) (Or.inl ⟨by rfl, ?_⟩) (by assumption) ?_
  rotate_left
  · (intro ww hSw; (try dsimp only at hSw); go_simp; try with_reducible rfl)
  (try simp only [Act.put, List.setIfInBounds_toArray, List.set_cons_zero, List.set_cons_succ])
  refine wpAnyH_take (i := 7) (oi := { dst := some 72, op := Op.binOp BinOp.eql 29 (Operand.tmp 71) (Operand.const Value.nilIface) 29, type := 4, pos := "outright.go:45", after := #[{ on := 6, ground := Ground.data }, { on := 5, ground := Ground.guard }], guard := some (5, false) }) (v := ?_) rfl (by kernel_rfl) (by kernel_rfl) (by kernel_rfl) (fun _ _ _ h => h) (Or.inl ⟨by rfl, ?_⟩) (by assumption) ?_
  rotate_left
  · (intro ww hSw; (try dsimp only at hSw); go_simp; try with_reducible rfl)
  (try simp only [Act.put, List.setIfInBounds_toArray, List.set_cons_zero, List.set_cons_succ])
  refine wpAnyH_take (i := 8) (oi := { dst := some 73, op := Op.move (Operand.tmp 72), type := 4, pos := "outright.go:45", after := #[{ on := 7, ground := Ground.data }, { on := 5, ground := Ground.chain }, { on := 5, ground := Ground.guard }], guard := some (5, false) }) (v := ?_) rfl (by kernel_rfl) (by kernel_rfl) (by kernel_rfl) (fun _ _ _ h => h) (Or.inl ⟨by rfl, ?_⟩) (by assumption) ?_
  rotate_left
  · (intro ww hSw; (try dsimp only at hSw); go_simp; try with_reducible rfl)
  (try simp only [Act.put, List.setIfInBounds_toArray, List.set_cons_zero, List.set_cons_succ])
  refine wpAnyH_take (i := 9) (oi := { dst := some 74, op := Op.move (Operand.tmp 13), type := 29, pos := "outright.go:45", after := #[{ on := 8, ground := Ground.guard }], guard := some (8, true) }) (v := ?_) rfl (by kernel_rfl) (by kernel_rfl) (by kernel_rfl) (fun _ _ _ h => h) (Or.inl ⟨by rfl, ?_⟩) (by assumption) ?_
  rotate_left
  · (intro ww hSw; (try dsimp only at hSw); go_simp; try with_reducible rfl)
  (try simp only [Act.put, List.setIfInBounds_toArray, List.set_cons_zero, List.set_cons_succ])
  refine wpAnyH_take (i := 10) (oi := { dst := some 75, op := Op.binOp BinOp.neq 29 (Operand.tmp 74) (Operand.const Value.nilIface) 29, type := 4, pos := "outright.go:45", after := #[{ on := 9, ground := Ground.data }, { on := 8, ground := Ground.guard }], guard := some (8, true) }) (v := ?_) rfl (by kernel_rfl) (by kernel_rfl) (by kernel_rfl) (fun _ _ _ h => h) (Or.inl ⟨by rfl, ?_⟩) (by assumption) ?_
  rotate_left
  · (intro ww hSw; (try dsimp only at hSw); go_simp; try with_reducible rfl)
  (try simp only [Act.put, List.setIfInBounds_toArray, List.set_cons_zero, List.set_cons_succ])
  refine wpAnyH_take (i := 11) (oi := { dst := some 76, op := Op.pick (Operand.tmp 73) (Operand.tmp 75) (Operand.const (Value.bool false)), type := 4, pos := "outright.go:45", after := #[{ on := 8, ground := Ground.data }, { on := 10, ground := Ground.data }, { on := 5, ground := Ground.guard }], guard := some (5, false) }) (v := ?_) rfl (by kernel_rfl) (by kernel_rfl) (by kernel_rfl) (fun _ _ _ h => h) (Or.inl ⟨by rfl, ?_⟩) (by assumption) ?_
  rotate_left
  · (intro ww hSw; (try dsimp only at hSw); go_simp; try with_reducible rfl)
  (try simp only [Act.put, List.setIfInBounds_toArray, List.set_cons_zero, List.set_cons_succ])
  refine wpAnyH_take (i := 12) (oi := { dst := some 77, op := Op.pick (Operand.tmp 70) (Operand.const (Value.bool true)) (Operand.tmp 76), type := 4, pos := "outright.go:45", after := #[{ on := 5, ground := Ground.data }, { on := 11, ground := Ground.data }], guard := none }) (v := ?_) rfl (by kernel_rfl) (by kernel_rfl) (by kernel_rfl) (fun _ _ _ h => h) (Or.inl ⟨by rfl, ?_⟩) (by assumption) ?_
  rotate_left
  · (intro ww hSw; (try dsimp only at hSw); go_simp; try with_reducible rfl)
  (try simp only [Act.put, List.setIfInBounds_toArray, List.set_cons_zero, List.set_cons_succ])
  refine wpAnyH_done (by kernel_rfl) ?_ _
  refine NoPanic.normal ?_
  have HK14 : Hid (Kp w w.heap.size [(g12, 27, VQ), (g9, 35, X4), (g10, 27, VQ), (g7, 27, VQ), (w.heap.size + 1 + 1, 23, VT), (w.heap.size + 1, 23, VF), (w.heap.size, 35, VP)] w13.drew) := Lib.hid hHeld
  clear hHeld HK13
  generalize w13.drew = w14 at *
  have hr0 := HK14.out.tl.tl.tl.hd.range
  go_wp2_with (((with_reducible (change wpList _ _ _ _ _ _)); ((refine wpList_load_mid rfl 27 _ rfl (g7) 0 rfl (VQ) _ hr0 Try.underlying27 rfl HI_VQ.out ?_))))
  clear hr0
  refine (CB.out _).mono ?_
  rintro e w15 ⟨f4, rfl, bb⟩
  have HK15 := Lib.hid (HK14.out.below bb (Nat.le_refl _))
  clear bb HK14
  have hr0 := HK15.out.tl.tl.hd.range
  go_wp2_with (((with_reducible (change wpList _ _ _ _ _ _)); ((refine wpList_load_mid rfl 27 _ rfl (g10) 0 rfl (VQ) _ hr0 Try.underlying27 rfl HI_VQ.out ?_))))
  clear hr0
  refine (CB.out _).mono ?_
  rintro e w16 ⟨f5, rfl, bb⟩
  have HK16 := Lib.hid (HK15.out.below bb (Nat.le_refl _))
  clear bb HK15
  have hr0 := HK16.out.hd.range
  go_wp2_with (((with_reducible (change wpList _ _ _ _ _ _)); ((refine wpList_load_mid rfl 27 _ rfl (g12) 0 rfl (VQ) _ hr0 Try.underlying27 rfl HI_VQ.out ?_))))
  clear hr0
  refine (CB.out _).mono ?_
  rintro e w17 ⟨f6, rfl, bb⟩
  have HK17 := Lib.hid (HK16.out.below bb (Nat.le_refl _))
  clear bb HK16
  go_upto_region 17 with (fail)
  refine wp_region_noPanic ?_
  refine wp_region_held_drew (S := fun w' => Kp w w.heap.size [(g12, 27, VQ), (g9, 35, X4), (g10, 27, VQ), (g7, 27, VQ), (w.heap.size + 1 + 1, 23, VT), (w.heap.size + 1, 23, VF), (w.heap.size, 35, VP)] w') (by kernel_rfl) (HK17.out.drew) (fun hHeld => ?_)
  refine wpAnyH_take (i := 0) (oi := { dst := some 93, op := Op.move (Operand.tmp 15), type := 29, pos := "outright.go:51", after := #[], guard := none }) (v := ?_) rfl (by kernel_rfl) (by kernel_rfl) (by kernel_rfl) (fun _ _ _ h => h) (Or.inl ⟨by rfl, ?_⟩) (by assumption) ?_
  rotate_left
  · (intro ww hSw; (try dsimp only at hSw); go_simp; try with_reducible rfl)
  (try simp only [Act.put, List.setIfInBounds_toArray, List.set_cons_zero, List.set_cons_succ])
  refine wpAnyH_take (i := 1) (oi := { dst := some 94, op := Op.binOp BinOp.eql 29 (Operand.tmp 93) (Operand.const Value.nilIface) 29, type := 4, pos := "outright.go:51", after := #[{ on := 0, ground := Ground.data }], guard := none }) (v := ?_) rfl (by kernel_rfl) (by kernel_rfl) (by kernel_rfl) (fun _ _ _ h => h) (Or.inl ⟨by rfl, ?_⟩) (by assumption) ?_
  rotate_left
  · (intro ww hSw; (try dsimp only at hSw); go_simp; try with_reducible rfl)
  (try simp only [Act.put, List.setIfInBounds_toArray, List.set_cons_zero, List.set_cons_succ])
  refine wpAnyH_take (i := 2) (oi := { dst := some 95, op := Op.move (Operand.tmp 17), type := 29, pos := "outright.go:51", after := #[], guard := none }) (v := ?_) rfl (by kernel_rfl) (by kernel_rfl) (by kernel_rfl) (fun _ _ _ h => h) (Or.inl ⟨by rfl, ?_⟩) (by assumption) ?_
  rotate_left
  · (intro ww hSw; (try dsimp only at hSw); go_simp; try with_reducible rfl)
  (try simp only [Act.put, List.setIfInBounds_toArray, List.set_cons_zero, List.set_cons_succ])
  refine wpAnyH_take (i := 3) (oi := { dst := some 96, op := Op.binOp BinOp.eql 29 (Operand.tmp 95) (Operand.const Value.nilIface) 29, type := 4, pos := "outright.go:51", after := #[{ on := 2, ground := Ground.data }], guard := none }) (v := ?_) rfl (by kernel_rfl) (by kernel_rfl) (by kernel_rfl) (fun _ _ _ h => h) (Or.inl ⟨by rfl, ?_⟩) (by assumption) ?_
  rotate_left
  · (intro ww hSw; (try dsimp only at hSw); go_simp; try with_reducible rfl)
  (try simp only [Act.put, List.setIfInBounds_toArray, List.set_cons_zero, List.set_cons_succ])
  refine wpAnyH_take (i := 4) (oi := { dst := some 97, op := Op.binOp BinOp.eql 4 (Operand.tmp 94) (Operand.tmp 96) 4, type := 4, pos := "outright.go:51", after := #[{ on := 1, ground := Ground.data }, { on := 3, ground := Ground.data }], guard := none }) (v := ?_) rfl (by kernel_rfl) (by kernel_rfl) (by kernel_rfl) (fun _ _ _ h => h) (Or.inl ⟨by rfl, ?_⟩) (by assumption) ?_
  rotate_left
  · (intro ww hSw; (try dsimp only at hSw); go_simp; try with_reducible rfl)
  (try simp only [Act.put, List.setIfInBounds_toArray, List.set_cons_zero, List.set_cons_succ])
  refine wpAnyH_take (i := 5) (oi := { dst := some 98, op := Op.move (Operand.tmp 97), type := 4, pos := "outright.go:51", after := #[{ on := 4, ground := Ground.data }], guard := none }) (v := ?_) rfl (by kernel_rfl) (by kernel_rfl) (by kernel_rfl) (fun _ _ _ h => h) (Or.inl ⟨by rfl, ?_⟩) (by assumption) ?_
  rotate_left
  · (intro ww hSw; (try dsimp only at hSw); go_simp; try with_reducible rfl)
  (try simp only [Act.put, List.setIfInBounds_toArray, List.set_cons_zero, List.set_cons_succ])
  refine wpAnyH_take (i := 6) (oi := { dst := some 99, op := Op.move (Operand.tmp 14), type := 9, pos := "outright.go:51", after := #[{ on := 5, ground := Ground.guard }], guard := some (5, true) }) (v := ?_) rfl (by kernel_rfl) (by kernel_rfl) (by kernel_rfl) (fun _ _ _ h => h) (Or.inl ⟨by rfl, ?_⟩) (by assumption) ?_
  rotate_left
  · (intro ww hSw; (try dsimp only at hSw); go_simp; try with_reducible rfl)
  (try simp only [Act.put, List.setIfInBounds_toArray, List.set_cons_zero, List.set_cons_succ])
  refine wpAnyH_take (i := 7) (oi := { dst := some 100, op := Op.move (Operand.tmp 16), type := 9, pos := "outright.go:51", after := #[{ on := 5, ground := Ground.guard }], guard := some (5, true) }) (v := ?_) rfl (by kernel_rfl) (by kernel_rfl) (by kernel_rfl) (fun _ _ _ h => h) (Or.inl ⟨by rfl, ?_⟩) (by assumption) ?_
  rotate_left
  · (intro ww hSw; (try dsimp only at hSw); go_simp; try with_reducible rfl)
  (try simp only [Act.put, List.setIfInBounds_toArray, List.set_cons_zero, List.set_cons_succ])
  refine wpAnyH_take (i := 8) (oi := { dst := some 101, op := Op.binOp BinOp.eql 9 (Operand.tmp 99) (Operand.tmp 100) 9, type := 4, pos := "outright.go:51", after := #[{ on := 6, ground := Ground.data }, { on := 7, ground := Ground.data }, { on := 5, ground := Ground.guard }], guard := some (5, true) }) (v := ?_) rfl (by kernel_rfl) (by kernel_rfl) (by kernel_rfl) (fun _ _ _ h => h) (Or.inl ⟨by rfl, ?_⟩) (by assumption) ?_
  rotate_left
  · (intro ww hSw; (try dsimp only at hSw); go_simp; try with_reducible rfl)
  (try simp only [Act.put, List.setIfInBounds_toArray, List.set_cons_zero, List.set_cons_succ])
  refine wpAnyH_take (i := 9) (oi := { dst := some 102, op := Op.pick (Operand.tmp 98) (Operand.tmp 101) (Operand.const (Value.bool false)), type := 4, pos := "outright.go:51", after := #[{ on := 5, ground := Ground.data }, { on := 8, ground := Ground.data }], guard := none }) (v := ?_) rfl (by kernel_rfl) (by kernel_rfl) (by kernel_rfl) (fun _ _ _ h => h) (Or.inl ⟨by rfl, ?_⟩) (by assumption) ?_
  rotate_left
  · (intro ww hSw; (try dsimp only at hSw); go_simp; try with_reducible rfl)
  (try simp only [Act.put, List.setIfInBounds_toArray, List.set_cons_zero, List.set_cons_succ])
  refine wpAnyH_take (i := 10) (oi := { dst := some 103, op := Op.move (Operand.tmp 102), type := 4, pos := "outright.go:51", after := #[{ on := 9, ground := Ground.data }, { on := 5, ground := Ground.chain }], guard := none }) (v := ?_) rfl (by kernel_rfl) (by kernel_rfl) (by kernel_rfl) (fun _ _ _ h => h) (Or.inl ⟨by rfl, ?_⟩) (by assumption) ?_
  rotate_left
  · (intro ww hSw; (try dsimp only at hSw); go_simp; try with_reducible rfl)
  (try simp only [Act.put, List.setIfInBounds_toArray, List.set_cons_zero, List.set_cons_succ])
  refine wpAnyH_take (i := 11) (oi := { dst := some 104, op := Op.move (Operand.tmp 8), type := 29, pos := "outright.go:51", after := #[{ on := 10, ground := Ground.guard }], guard := some (10, true) }) (v := ?_) rfl (by kernel_rfl) (by kernel_rfl) (by kernel_rfl) (fun _ _ _ h => h) (Or.inl ⟨by rfl, ?_⟩) (by assumption) ?_
  rotate_left
  · (intro ww hSw; (try dsimp only at hSw); go_simp; try with_reducible rfl)
  (try simp only [Act.put, List.setIfInBounds_toArray, List.set_cons_zero, List.set_cons_succ])
  refine wpAnyH_take (i := 12) (oi := { dst := some 105, op := Op.binOp BinOp.neq 29 (Operand.tmp 104) (Operand.const Value.nilIface) 29, type := 4, pos := "outright.go:51", after := #[{ on := 11, ground := Ground.data }, { on := 10, ground := Ground.guard }], guard := some (10, true) }) (v := ?_) rfl (by kernel_rfl) (by kernel_rfl) (by kernel_rfl) (fun _ _ _ h => h) (Or.inl ⟨by rfl, ?_⟩) (by assumption) ?_
  rotate_left
  · (intro ww hSw; (try dsimp only at hSw); go_simp; try with_reducible rfl)
  (try simp only [Act.put, List.setIfInBounds_toArray, List.set_cons_zero, List.set_cons_succ])
  refine wpAnyH_take (i := 13) (oi := { dst := some 106, op := Op.move (Operand.tmp 105), type := 4, pos := "outright.go:51", after := #[{ on := 12, ground := Ground.data }, { on := 10, ground := Ground.chain }, { on := 10, ground := Ground.guard }], guard := some (10, true) }) (v := ?_) rfl (by kernel_rfl) (by kernel_rfl) (by kernel_rfl) (fun _ _ _ h => h) (Or.inl ⟨by rfl, ?_⟩) (by assumption) ?_
  rotate_left
  · (intro ww hSw; (try dsimp only at hSw); go_simp; try with_reducible rfl)
  (try simp only [Act.put, List.setIfInBounds_toArray, List.set_cons_zero, List.set_cons_succ])
  refine wpAnyH_take (i := 14) (oi := { dst := some 107, op := Op.move (Operand.tmp 15), type := 29, pos := "outright.go:51", after := #[{ on := 13, ground := Ground.guard }], guard := some (13, false) }) (v := ?_) rfl (by kernel_rfl) (by kernel_rfl) (by kernel_rfl) (fun _ _ _ h => h) (Or.inl ⟨by rfl, ?_⟩) (by assumption) ?_
  rotate_left
  · (intro ww hSw; (try dsimp only at hSw); go_simp; try with_reducible rfl)
  (try simp only [Act.put, List.setIfInBounds_toArray, List.set_cons_zero, List.set_cons_succ])
  refine wpAnyH_take (i := 15) (oi := { dst := some 108, op := Op.binOp BinOp.eql 29 (Operand.tmp 107) (Operand.const Value.nilIface) 29, type := 4, pos := "outright.go:51", after := #[{ on := 14, ground := Ground.data }, { on := 13, ground := Ground.guard }], guard := some (13, false) }) (v := ?_) rfl (by kernel_rfl) (by kernel_rfl) (by kernel_rfl) (fun _ _ _ h => h) (Or.inl ⟨by rfl, ?_⟩) (by assumption) ?_
  rotate_left
  · (intro ww hSw; (try dsimp only at hSw); go_simp; try with_reducible rfl)
  (try simp only [Act.put, List.setIfInBounds_toArray, List.set_cons_zero, List.set_cons_succ])
  refine wpAnyH_take (i := 16) (oi := { dst := some 109, op := Op.move (Operand.tmp 19), type := 29, pos := "outright.go:51", after := #[{ on := 13, ground := Ground.guard }], guard := some (13, false) }) (v := ?_) rfl (by kernel_rfl) (by kernel_rfl) (by kernel_rfl) (fun _ _ _ h => h) (Or.inl ⟨by rfl, ?_⟩) (by assumption) ?_
  rotate_left
  · (intro ww hSw; (try dsimp only at hSw); go_simp; try with_reducible rfl)
  (try simp only [Act.put, List.setIfInBounds_toArray, List.set_cons_zero, List.set_cons_succ])
  refine wpAnyH_take (i := 17) (oi := { dst := some 110, op := Op.binOp BinOp.eql 29 (Operand.tmp 109) (Operand.const Value.nilIface) 29, type := 4, pos := "outright.go:51", after := #[{ on := 16, ground := Ground.data }, { on := 13, ground := Ground.guard }], guard := some (13, false) }) (v := ?_) rfl (by kernel_rfl) (by kernel_rfl) (by kernel_rfl) (fun _ _ _ h => h) (Or.inl ⟨by rfl, ?_⟩) (by assumption) ?_
  rotate_left
  · (intro ww hSw; (try dsimp only at hSw); go_simp; try with_reducible rfl)
  (try simp only [Act.put, List.setIfInBounds_toArray, List.set_cons_zero, List.set_cons_succ])
  refine wpAnyH_take (i := 18) (oi := { dst := some 111, op := Op.binOp BinOp.eql 4 (Operand.tmp 108) (Operand.tmp 110) 4, type := 4, pos := "outright.go:51", after := #[{ on := 15, ground := Ground.data }, { on := 17, ground := Ground.data }, { on := 13, ground := Ground.guard }], guard := some (13, false) }) (v := ?_) rfl (by kernel_rfl) (by kernel_rfl) (by kernel_rfl) (fun _ _ _ h => h) (Or.inl ⟨by rfl, ?_⟩) (by assumption) ?_
  rotate_left
  · (intro ww hSw; (try dsimp only at hSw); go_simp; try with_reducible rfl)
  (try simp only [Act.put, List.setIfInBounds_toArray, List.set_cons_zero, List.set_cons_succ])
  refine wpAnyH_take (i := 19) (oi := { dst := some 112, op := Op.move (Operand.tmp 111), type := 4, pos := "outright.go:51", after := #[{ on := 18, ground := Ground.data }, { on := 13, ground := Ground.chain }, { on := 13, ground := Ground.guard }], guard := some (13, false) }) (v := ?_) rfl (by kernel_rfl) (by kernel_rfl) (by kernel_rfl) (fun _ _ _ h => h) (Or.inl ⟨by rfl, ?_⟩) (by assumption) ?_
  rotate_left
  · (intro ww hSw; (try dsimp only at hSw); go_simp; try with_reducible rfl)
  (try simp only [Act.put, List.setIfInBounds_toArray, List.set_cons_zero, List.set_cons_succ])
  refine wpAnyH_take (i := 20) (oi := { dst := some 113, op := Op.move (Operand.tmp 14), type := 9, pos := "outright.go:51", after := #[{ on := 19, ground := Ground.guard }], guard := some (19, true) }) (v := ?_) rfl (by kernel_rfl) (by kernel_rfl) (by kernel_rfl) (fun _ _ _ h => h) (Or.inl ⟨by rfl, ?_⟩) (by assumption) ?_
  rotate_left
  · (intro ww hSw; (try dsimp only at hSw); go_simp; try with_reducible rfl)
  (try simp only [Act.put, List.setIfInBounds_toArray, List.set_cons_zero, List.set_cons_succ])
  refine wpAnyH_take (i := 21) (oi := { dst := some 114, op := Op.move (Operand.tmp 18), type := 9, pos := "outright.go:51", after := #[{ on := 19, ground := Ground.guard }], guard := some (19, true) }) (v := ?_) rfl (by kernel_rfl) (by kernel_rfl) (by kernel_rfl) (fun _ _ _ h => h) (Or.inl ⟨by rfl, ?_⟩) (by assumption) ?_
  rotate_left
  · (intro ww hSw; (try dsimp only at hSw); go_simp; try with_reducible rfl)
  (try simp only [Act.put, List.setIfInBounds_toArray, List.set_cons_zero, List.set_cons_succ])
  refine wpAnyH_take (i := 22) (oi := { dst := some 115, op := Op.binOp BinOp.eql 9 (Operand.tmp 113) (Operand.tmp 114) 9, type := 4, pos := "outright.go:51", after := #[{ on := 20, ground := Ground.data }, { on := 21, ground := Ground.data }, { on := 19, ground := Ground.guard }], guard := some (19, true) }) (v := ?_) rfl (by kernel_rfl) (by kernel_rfl) (by kernel_rfl) (fun _ _ _ h => h) (Or.inl ⟨by rfl, ?_⟩) (by assumption) ?_
  rotate_left
  · (intro ww hSw; (try dsimp only at hSw); go_simp; try with_reducible rfl)
  (try simp only [Act.put, List.setIfInBounds_toArray, List.set_cons_zero, List.set_cons_succ])
  refine wpAnyH_take (i := 23) (oi := { dst := some 116, op := Op.pick (Operand.tmp 112) (Operand.tmp 115) (Operand.const (Value.bool false)), type := 4, pos := "outright.go:51", after := #[{ on := 19, ground := Ground.data }, { on := 22, ground := Ground.data }, { on := 13, ground := Ground.guard }], guard := some (13, false) }) (v := ?_) rfl (by kernel_rfl) (by kernel_rfl) (by kernel_rfl) (fun _ _ _ h => h) (Or.inl ⟨by rfl, ?_⟩) (by assumption) ?_
  rotate_left
  · (intro ww hSw; (try dsimp only at hSw); go_simp; try with_reducible rfl)
  (try simp only [Act.put, List.setIfInBounds_toArray, List.set_cons_zero, List.set_cons_succ])
  refine wpAnyH_take (i := 24) (oi := { dst := some 117, op := Op.pick (Operand.tmp 106) (Operand.const (Value.bool true)) (Operand.tmp 116), type := 4, pos := "outright.go:51", after := #[{ on := 13, ground := Ground.data }, { on := 23, ground := Ground.data }, { on := 10, ground := Ground.guard }], guard := some (10, true) }) (v := ?_) rfl (by kernel_rfl) (by kernel_rfl) (by kernel_rfl) (fun _ _ _ h => h) (Or.inl ⟨by rfl, ?_⟩) (by assumption) ?_
  rotate_left
  · (intro ww hSw; (try dsimp only at hSw); go_simp; try with_reducible rfl)
  (try simp only [Act.put, List.setIfInBounds_toArray, List.set_cons_zero, List.set_cons_succ])
  refine wpAnyH_take (i := 25) (oi := { dst := some 118, op := Op.pick (Operand.tmp 103) (Operand.tmp 117) (Operand.const (Value.bool false)), type := 4, pos := "outright.go:51", after := #[{ on := 10, ground := Ground.data }, { on := 24, ground := Ground.data }], guard := none }) (v := ?_) rfl (by kernel_rfl) (by kernel_rfl) (by kernel_rfl) (fun _ _ _ h => h) (Or.inl ⟨by rfl, ?_⟩) (by assumption) ?_
  rotate_left
  · (intro ww hSw; (try dsimp only at hSw); go_simp; try with_reducible rfl)
  (try simp only [Act.put, List.setIfInBounds_toArray, List.set_cons_zero, List.set_cons_succ])
  refine wpAnyH_take (i := 26) (oi := { dst := some 6, op := Op.assign (Operand.tmp 118), type := 4, pos := "outright.go:51", after := #[{ on := 25, ground := Ground.data }, { on := 19, ground := Ground.chain }, { on := 0, ground := Ground.phase }, { on := 1, ground := Ground.phase }, { on := 2, ground := Ground.phase }, { on := 3, ground := Ground.phase }, { on := 4, ground := Ground.phase }, { on := 5, ground := Ground.phase }, { on := 6, ground := Ground.phase }, { on := 7, ground := Ground.phase }, { on := 8, ground := Ground.phase }, { on := 9, ground := Ground.phase }, { on := 10, ground := Ground.phase }, { on := 11, ground := Ground.phase }, { on := 12, ground := Ground.phase }, { on := 13, ground := Ground.phase }, { on := 14, ground := Ground.phase }, { on := 15, ground := Ground.phase }, { on := 16, ground := Ground.phase }, { on := 17, ground := Ground.phase }, { on := 18, ground := Ground.phase }, { on := 19, ground := Ground.phase }, { on := 20, ground := Ground.phase }, { on := 21, ground := Ground.phase }, { on := 22, ground := Ground.phase }, { on := 23, ground := Ground.phase }, { on := 24, ground := Ground.phase }, { on := 25, ground := Ground.phase }], guard := none }) (v := ?_) rfl (by kernel_rfl) (by kernel_rfl) (by kernel_rfl) (fun _ _ _ h => h) (Or.inl ⟨by rfl, ?_⟩) (by assumption) ?_
  rotate_left
  · (intro ww hSw; (try dsimp only at hSw); go_simp; try with_reducible rfl)
  (try simp only [Act.put, List.setIfInBounds_toArray, List.set_cons_zero, List.set_cons_succ])
  refine wpAnyH_done (by kernel_rfl) ?_ _
  refine NoPanic.normal ?_
  have HE := Lib.hid hHeld.2.1
  clear hHeld
  go_wp2_with (fail)
  go_ret
  refine ⟨?_, HE.out⟩
  first | rfl | simp

set_option maxRecDepth 100000 in
set_option maxHeartbeats 4000000 in
theorem blind_mainC (p : P4.Pkt) (F T : List UInt8) (hF : F.length = 16) (hT : T.length = 16) (w : World) (hd : ¬ (70000 : Int) < (p.data.size : Int)) (ho : ¬ (1000 : Int) < (p.opts.size : Int)) (hh : hcode p ≠ 0) :
    Calls Try.prog 6 #[.agg p.vals.toArray, .agg (bytV F).toArray, .agg (bytV T).toArray] w fun e w' => e = .returned (.bool true) ∧ Below w.heap.size w w' := by
  obtain ⟨VQ, hVQ⟩ : ∃ V, V = pk0.vals (.slice none 0 0) := ⟨_, rfl⟩
  obtain ⟨VS, hVS⟩ : ∃ V, V = (hout (turn4 p) F T hF hT).vals (.slice none 0 0) := ⟨_, rfl⟩
  have CH : Hid (∀ W, Calls Try.prog 7 #[.agg p.vals.toArray, .agg (bytV F).toArray, .agg (bytV T).toArray] W fun e w' =>  ∃ f : Nat, e = .returned (.tuple #[.agg VQ.toArray, .iface 50 (.pointer (some ⟨f, 0, none⟩))]) ∧ Below W.heap.size W w') := Lib.hid (fun W => by
    refine (head_any p F T hF hT W).mono ?_
    rintro e w' ⟨x, rfl, her, b⟩
    rcases her with ⟨h, _⟩ | ⟨_, f, rfl, _, _⟩
    · exact absurd h hh
    · exact ⟨f, by rw [hVQ, hout_bad hh], b⟩)
  have CG : Hid (∀ W, Calls Try.prog 7 #[.agg (turn3 p).vals.toArray, .agg (bytV F).toArray, .agg (bytV T).toArray] W fun e w' =>  ∃ f : Nat, e = .returned (.tuple #[.agg VQ.toArray, .iface 50 (.pointer (some ⟨f, 0, none⟩))]) ∧ Below W.heap.size W w') := Lib.hid (fun W => by
    refine (head_any (turn3 p) F T hF hT W).mono ?_
    rintro e w' ⟨x, rfl, her, b⟩
    rcases her with ⟨h, _⟩ | ⟨_, f, rfl, _, _⟩
    · exact absurd h (by rw [turn3_code]; exact hh)
    · exact ⟨f, by rw [hVQ, hout_bad (by rw [turn3_code]; exact hh)], b⟩)
  have CI : Hid (∀ W, Calls Try.prog 7 #[.agg (turn4 p).vals.toArray, .agg (bytV F).toArray, .agg (bytV T).toArray] W fun e w' =>  ∃ y, e = .returned (.tuple #[.agg VS.toArray, y]) ∧ Below W.heap.size W w') := Lib.hid (fun W => by
    refine (head_any (turn4 p) F T hF hT W).mono ?_
    rintro e w' ⟨x, rfl, _, b⟩
    exact ⟨x, by rw [hVS], b⟩)
  have CB : Hid (∀ W, Calls Try.prog 15 #[.agg VQ.toArray] W fun e w' =>  ∃ f : Nat, e = .returned (.tuple #[.string ⟨#[]⟩, .iface 50 (.pointer (some ⟨f, 0, none⟩))]) ∧ Below W.heap.size W w') := Lib.hid (fun W => by
    rw [hVQ]
    refine (bytes_bad _ _ W (exs_nil W) ⟨by decide, by decide, fun e he => by cases he⟩ (by decide)).mono ?_
    rintro e w' ⟨f, rfl, _, _, b⟩
    exact ⟨f, rfl, b⟩)
  have CD : Hid (∀ W, Calls Try.prog 15 #[.agg VS.toArray] W fun e w' =>  ∃ s y, e = .returned (.tuple #[.string s, y]) ∧ Below W.heap.size W w') := Lib.hid (fun W => by
    rw [hVS]
    have hx : Exs W (.slice none 0 0) (hout (turn4 p) F T hF hT).exts := by rw [hout_exts]; exact exs_nil W
    have hs : Sm (hout (turn4 p) F T hF hT) := by
      unfold hout
      split
      · exact h46_sm (by show p.data.size ≤ 70000; omega)
      · exact ⟨by decide, by decide, fun e he => by cases he⟩
    have hi : 0 ≤ (hout (turn4 p) F T hF hT).id ∧ (hout (turn4 p) F T hF hT).id < 4294967296 := by
      unfold hout
      split
      · exact h46_id
      · exact ⟨by decide, by decide⟩
    by_cases hw : (hout (turn4 p) F T hF hT).why = 0
    · refine (bytes_ok _ _ W hx hs hw hi).mono ?_
      rintro e w' ⟨rfl, b⟩
      exact ⟨_, _, rfl, b⟩
    · refine (bytes_bad _ _ W hx hs (by rw [bne_iff_ne]; exact hw)).mono ?_
      rintro e w' ⟨f, rfl, _, _, b⟩
      exact ⟨_, _, rfl, b⟩)
  have HI_VQ : Hid ((Try.prog.info? 27).map (·.size) = some (VQ).length) := Lib.hid (by rw [hVQ]; exact Try.info6 _ _)
  have HO_VQ : Hid ((VQ).toArray.all (·.oneCell') = true) := Lib.hid (by rw [hVQ]; exact vals_one _ _ rfl)
  have HL_VQ : Hid ((VQ).length = 42) := Lib.hid (by rw [hVQ]; exact vals_len _ _)
  have HI_VS : Hid ((Try.prog.info? 27).map (·.size) = some (VS).length) := Lib.hid (by rw [hVS]; exact Try.info6 _ _)
  have HO_VS : Hid ((VS).toArray.all (·.oneCell') = true) := Lib.hid (by rw [hVS]; exact vals_one _ _ rfl)
  have HL_VS : Hid ((VS).length = 42) := Lib.hid (by rw [hVS]; exact vals_len _ _)
  clear hVQ hh hVS
  have HI_X1 : Hid ((Try.prog.info? 35).map (·.size) = some ((turn1 p).vals).length) := Lib.hid (P4.Try.infoIp _)
  have HO_X1 : Hid (((turn1 p).vals).toArray.all (·.oneCell') = true) := Lib.hid (P4.vals_one _)
  have HL_X1 : Hid (((turn1 p).vals).length = 17) := Lib.hid rfl
  have HI_X2 : Hid ((Try.prog.info? 35).map (·.size) = some ((turn2 p).vals).length) := Lib.hid (P4.Try.infoIp _)
  have HO_X2 : Hid (((turn2 p).vals).toArray.all (·.oneCell') = true) := Lib.hid (P4.vals_one _)
  have HL_X2 : Hid (((turn2 p).vals).length = 17) := Lib.hid rfl
  have HI_X3 : Hid ((Try.prog.info? 35).map (·.size) = some ((turn3 p).vals).length) := Lib.hid (P4.Try.infoIp _)
  have HO_X3 : Hid (((turn3 p).vals).toArray.all (·.oneCell') = true) := Lib.hid (P4.vals_one _)
  have HL_X3 : Hid (((turn3 p).vals).length = 17) := Lib.hid rfl
  have HI_X4 : Hid ((Try.prog.info? 35).map (·.size) = some ((turn4 p).vals).length) := Lib.hid (P4.Try.infoIp _)
  have HO_X4 : Hid (((turn4 p).vals).toArray.all (·.oneCell') = true) := Lib.hid (P4.vals_one _)
  have HL_X4 : Hid (((turn4 p).vals).length = 17) := Lib.hid rfl
  have HE1 : Hid (p.vals.set 5 (.bool (!p.df)) = (turn1 p).vals) := Lib.hid rfl
  have HE2 : Hid (puts (turn1 p).vals.toArray 7 ([.int .u8 p.b0, .int .u8 p.b1, .int .u8 p.b2, .int .u8 p.b3] : List Value) = (turn2 p).vals.toArray) := Lib.hid rfl
  have HE3 : Hid (puts (turn2 p).vals.toArray 11 ([.int .u8 p.a0, .int .u8 p.a1, .int .u8 p.a2, .int .u8 p.a3] : List Value) = (turn3 p).vals.toArray) := Lib.hid rfl
  have HE4 : Hid ((turn3 p).vals.set 15 (.string ⟨#[]⟩) = (turn4 p).vals) := Lib.hid rfl
  have HRG : Hid (∀ (W : World) (b : Nat), Bk W b 35 p.vals.toArray → W.rangeAt b 7 ([.int .u8 p.a0, .int .u8 p.a1, .int .u8 p.a2, .int .u8 p.a3] : List Value) ∧ W.rangeAt b 11 ([.int .u8 p.b0, .int .u8 p.b1, .int .u8 p.b2, .int .u8 p.b3] : List Value)) := Lib.hid (fun W b h => pkt_ranges p h)
  have HI_VA : Hid ((Try.prog.info? 33).map (·.size) = some (([.int .u8 p.a0, .int .u8 p.a1, .int .u8 p.a2, .int .u8 p.a3] : List Value)).length) := Lib.hid (Try.infoV4c _ _ _ _)
  have HO_VA : Hid ((([.int .u8 p.a0, .int .u8 p.a1, .int .u8 p.a2, .int .u8 p.a3] : List Value)).toArray.all (·.oneCell') = true) := Lib.hid (by simp [Value.oneCell'])
  have HL_VA : Hid ((([.int .u8 p.a0, .int .u8 p.a1, .int .u8 p.a2, .int .u8 p.a3] : List Value)).length = 4) := Lib.hid rfl
  have HI_VB : Hid ((Try.prog.info? 33).map (·.size) = some (([.int .u8 p.b0, .int .u8 p.b1, .int .u8 p.b2, .int .u8 p.b3] : List Value)).length) := Lib.hid (Try.infoV4c _ _ _ _)
  have HO_VB : Hid ((([.int .u8 p.b0, .int .u8 p.b1, .int .u8 p.b2, .int .u8 p.b3] : List Value)).toArray.all (·.oneCell') = true) := Lib.hid (by simp [Value.oneCell'])
  have HL_VB : Hid ((([.int .u8 p.b0, .int .u8 p.b1, .int .u8 p.b2, .int .u8 p.b3] : List Value)).length = 4) := Lib.hid rfl
  generalize ([.int .u8 p.a0, .int .u8 p.a1, .int .u8 p.a2, .int .u8 p.a3] : List Value) = VA at *
  generalize ([.int .u8 p.b0, .int .u8 p.b1, .int .u8 p.b2, .int .u8 p.b3] : List Value) = VB at *
  generalize (turn1 p).vals = X1 at *
  generalize (turn2 p).vals = X2 at *
  generalize (turn3 p).vals = X3 at *
  generalize (turn4 p).vals = X4 at *
  have HI_VP : Hid ((Try.prog.info? 35).map (·.size) = some (p.vals).length) := Lib.hid (P4.Try.infoIp _)
  have HO_VP : Hid ((p.vals).toArray.all (·.oneCell') = true) := Lib.hid (P4.vals_one _)
  have HL_VP : Hid ((p.vals).length = 17) := Lib.hid rfl
  have HI_VF : Hid ((Try.prog.info? 23).map (·.size) = some (bytV F).length) := Lib.hid (Try.infoV6 _ hF)
  have HO_VF : Hid ((bytV F).toArray.all (·.oneCell') = true) := Lib.hid (by rw [List.all_toArray, List.all_eq_true]; exact bytV_one _)
  have HL_VF : Hid ((bytV F).length = 16) := Lib.hid (by rw [bytV_len]; exact hF)
  have HI_VT : Hid ((Try.prog.info? 23).map (·.size) = some (bytV T).length) := Lib.hid (Try.infoV6 _ hT)
  have HO_VT : Hid ((bytV T).toArray.all (·.oneCell') = true) := Lib.hid (by rw [List.all_toArray, List.all_eq_true]; exact bytV_one _)
  have HL_VT : Hid ((bytV T).length = 16) := Lib.hid (by rw [bytV_len]; exact hT)
  have HC_VP_0 : Hid (p.vals[0]? = some (.int .i64 p.tos)) := Lib.hid rfl
  have HC_VP_1 : Hid (p.vals[1]? = some (.int .i64 p.id)) := Lib.hid rfl
  have HC_VP_2 : Hid (p.vals[2]? = some (.int .i64 p.ttl)) := Lib.hid rfl
  have HC_VP_3 : Hid (p.vals[3]? = some (.int .i64 p.proto)) := Lib.hid rfl
  have HC_VP_4 : Hid (p.vals[4]? = some (.int .i64 p.pl)) := Lib.hid rfl
  have HC_VP_5 : Hid (p.vals[5]? = some (.bool p.df)) := Lib.hid rfl
  have HC_VP_6 : Hid (p.vals[6]? = some (.bool p.more)) := Lib.hid rfl
  have HC_VP_15 : Hid (p.vals[15]? = some (.string p.opts)) := Lib.hid rfl
  have HC_VP_16 : Hid (p.vals[16]? = some (.string p.data)) := Lib.hid rfl
  have HK1 : Hid (Kp w w.heap.size [(w.heap.size + 1 + 1, 23, bytV T), (w.heap.size + 1, 23, bytV F), (w.heap.size, 35, p.vals)] (((w.alloc (.cells p.vals.toArray 35)).alloc (.cells (bytV F).toArray 23)).alloc (.cells (bytV T).toArray 23))) := Lib.hid (by
    have h := ((Kp.start w).new 35 p.vals).new 23 (bytV F)
    have e1 : (w.alloc (.cells p.vals.toArray 35)).heap.size = w.heap.size + 1 := by simp
    have e2 : ((w.alloc (.cells p.vals.toArray 35)).alloc (.cells (bytV F).toArray 23)).heap.size = w.heap.size + 1 + 1 := by simp
    rw [e1] at h
    have h2 := h.new 23 (bytV T)
    rwa [e2] at h2)
  generalize p.vals = VP at *
  generalize bytV F = VF at *
  generalize bytV T = VT at *
  generalize hw1 : ((w.alloc (.cells VP.toArray 35)).alloc (.cells VF.toArray 23)).alloc (.cells VT.toArray 23) = w1 at *
  go_enter Try.func6, Try.ntmps6
  go_upto_region 1 with (fail)
  clear hw1
  go_wp2_with (fail)
  refine (awake_true _).mono ?_
  rintro e w2 ⟨rfl, bb⟩
  have HK2 := Lib.hid (HK1.out.below bb (Nat.le_refl _))
  clear bb HK1
  have c16 : w2.cell? ⟨w.heap.size, 16, none⟩ = some (.string p.data) := HK2.out.tl.tl.hd.at HC_VP_16.out
  have c15 : w2.cell? ⟨w.heap.size, 15, none⟩ = some (.string p.opts) := HK2.out.tl.tl.hd.at HC_VP_15.out
  go_upto_region 5 with (fail)
  clear c16 c15
  have hr0 := HK2.out.tl.tl.hd.range
  have hr1 := HK2.out.tl.hd.range
  have hr2 := HK2.out.hd.range
  go_wp2_with (((with_reducible (change wpList _ _ _ _ _ _)); (first | (refine wpList_load_mid rfl 35 _ rfl (w.heap.size) 0 rfl (VP) _ hr0 Try.underlying35 rfl HI_VP.out ?_) | (refine wpList_load_mid rfl 23 _ rfl (w.heap.size + 1) 0 rfl (VF) _ hr1 Try.underlying23 rfl HI_VF.out ?_) | (refine wpList_load_mid rfl 23 _ rfl (w.heap.size + 1 + 1) 0 rfl (VT) _ hr2 Try.underlying23 rfl HI_VT.out ?_))))
  clear hr0 hr1 hr2
  refine (CH.out _).mono ?_
  rintro e w3 ⟨f1, rfl, bb⟩
  have HK3 := Lib.hid (HK2.out.below bb (Nat.le_refl _))
  clear bb HK2
  have ht := (bk_new w3 27 ([.int .i64 0, .int .i64 0, .int .i64 0, .int .u8 0, .int .u8 0, .int .u8 0, .int .u8 0, .int .u8 0, .int .u8 0, .int .u8 0, .int .u8 0, .int .u8 0, .int .u8 0, .int .u8 0, .int .u8 0, .int .u8 0, .int .u8 0, .int .u8 0, .int .u8 0, .int .u8 0, .int .u8 0, .int .u8 0, .int .u8 0, .int .u8 0, .int .u8 0, .int .u8 0, .int .u8 0, .int .u8 0, .int .u8 0, .int .u8 0, .int .u8 0, .int .u8 0, .int .u8 0, .int .u8 0, .int .u8 0, .slice none 0 0, .bool false, .int .u32 0, .int .i64 0, .bool false, .int .i64 0, .string ⟨#[]⟩] : List Value).toArray).there VQ.toArray.size (by have := HL_VQ.out; simp; omega)
  go_upto_region 6 with (((with_reducible (change wpList _ _ _ _ _ _)); ((refine wpList_store_mid rfl 27 _ _ rfl (w3.heap.size) 0 VQ.toArray rfl rfl ht (by simpa using HI_VQ.out) HO_VQ.out ?_))))
  have HK4 := Lib.hid (HK3.out.put 27 ([.int .i64 0, .int .i64 0, .int .i64 0, .int .u8 0, .int .u8 0, .int .u8 0, .int .u8 0, .int .u8 0, .int .u8 0, .int .u8 0, .int .u8 0, .int .u8 0, .int .u8 0, .int .u8 0, .int .u8 0, .int .u8 0, .int .u8 0, .int .u8 0, .int .u8 0, .int .u8 0, .int .u8 0, .int .u8 0, .int .u8 0, .int .u8 0, .int .u8 0, .int .u8 0, .int .u8 0, .int .u8 0, .int .u8 0, .int .u8 0, .int .u8 0, .int .u8 0, .int .u8 0, .int .u8 0, .int .u8 0, .slice none 0 0, .bool false, .int .u32 0, .int .i64 0, .bool false, .int .i64 0, .string ⟨#[]⟩] : List Value).toArray VQ (by have := HL_VQ.out; simp; omega))
  clear ht HK3
  generalize (w3.alloc (.cells ([.int .i64 0, .int .i64 0, .int .i64 0, .int .u8 0, .int .u8 0, .int .u8 0, .int .u8 0, .int .u8 0, .int .u8 0, .int .u8 0, .int .u8 0, .int .u8 0, .int .u8 0, .int .u8 0, .int .u8 0, .int .u8 0, .int .u8 0, .int .u8 0, .int .u8 0, .int .u8 0, .int .u8 0, .int .u8 0, .int .u8 0, .int .u8 0, .int .u8 0, .int .u8 0, .int .u8 0, .int .u8 0, .int .u8 0, .int .u8 0, .int .u8 0, .int .u8 0, .int .u8 0, .int .u8 0, .int .u8 0, .slice none 0 0, .bool false, .int .u32 0, .int .i64 0, .bool false, .int .i64 0, .string ⟨#[]⟩] : List Value).toArray 27)).setCells w3.heap.size 0 VQ = w4 at *
  generalize w3.heap.size = g7 at *
  have HG7 : Hid (g7 < w4.heap.size ∧ w.heap.size + 1 + 1 < w4.heap.size) := Lib.hid ⟨HK4.out.hd.lt, HK4.out.tl.hd.lt⟩
  have hr0 := HK4.out.tl.tl.tl.hd.range
  have ht := (bk_new w4 35 ([.int .i64 0, .int .i64 0, .int .i64 0, .int .i64 0, .int .i64 0, .bool false, .bool false, .int .u8 0, .int .u8 0, .int .u8 0, .int .u8 0, .int .u8 0, .int .u8 0, .int .u8 0, .int .u8 0, .string ⟨#[]⟩, .string ⟨#[]⟩] : List Value).toArray).there VP.toArray.size (by have := HL_VP.out; simp; omega)
  go_upto_region 7 with (((with_reducible (change wpList _ _ _ _ _ _)); (first | (refine wpList_load_mid rfl 35 _ rfl (w.heap.size) 0 rfl (VP) _ hr0 Try.underlying35 rfl HI_VP.out ?_) | (refine wpList_store_mid rfl 35 _ _ rfl (w4.heap.size) 0 VP.toArray rfl rfl ht (by simpa using HI_VP.out) HO_VP.out ?_))))
  have HK5 := Lib.hid (HK4.out.put 35 ([.int .i64 0, .int .i64 0, .int .i64 0, .int .i64 0, .int .i64 0, .bool false, .bool false, .int .u8 0, .int .u8 0, .int .u8 0, .int .u8 0, .int .u8 0, .int .u8 0, .int .u8 0, .int .u8 0, .string ⟨#[]⟩, .string ⟨#[]⟩] : List Value).toArray VP (by have := HL_VP.out; simp; omega))
  clear ht HK4
  generalize (w4.alloc (.cells ([.int .i64 0, .int .i64 0, .int .i64 0, .int .i64 0, .int .i64 0, .bool false, .bool false, .int .u8 0, .int .u8 0, .int .u8 0, .int .u8 0, .int .u8 0, .int .u8 0, .int .u8 0, .int .u8 0, .string ⟨#[]⟩, .string ⟨#[]⟩] : List Value).toArray 35)).setCells w4.heap.size 0 VP = w5 at *
  generalize w4.heap.size = g9 at *
  clear hr0
  have hne : ∀ x ∈ ([(g7, 27, VQ), (w.heap.size + 1 + 1, 23, VT), (w.heap.size + 1, 23, VF), (w.heap.size, 35, VP)] : List (Nat × TypeId × List Value)), x.1 ≠ g9 := by
    have hg := HG7.out
    intro x hx
    simp only [List.mem_cons, List.not_mem_nil, or_false] at hx
    rcases hx with rfl | rfl | rfl | rfl <;> (show _ ≠ g9; omega)
  have hgB : w.heap.size ≤ g9 := by have := HG7.out; omega
  have HNE := Lib.hid (And.intro hne hgB)
  clear hne hgB
  have c5 : w5.cell? ⟨w.heap.size, 5, none⟩ = some (.bool p.df) := HK5.out.tl.tl.tl.tl.hd.at HC_VP_5.out
  obtain ⟨uu, hu, hz⟩ := HK5.out.some1 5 (by have := HL_VP.out; omega)
  go_upto_region 8 with (fail)
  have hk := HK5.out.set1 HNE.out.1 HNE.out.2 5 (.bool (!p.df))
  rw [HE1.out] at hk
  have HK6 := Lib.hid hk
  clear hk hu hz HK5 c5
  generalize w5.setCell ⟨g9, 5, none⟩ (.bool (!p.df)) = w6 at *
  have HKR : Hid (∀ W : World, Pst w w.heap.size [(g7, 27, VQ), (w.heap.size + 1 + 1, 23, VT), (w.heap.size + 1, 23, VF), (w.heap.size, 35, VP)] g9 35 17 W → (fun w' => Pst w w.heap.size [(g7, 27, VQ), (w.heap.size + 1 + 1, 23, VT), (w.heap.size + 1, 23, VF), (w.heap.size, 35, VP)] g9 35 17 w' ∧ w'.rangeAt (w.heap.size) 7 VA ∧ w'.rangeAt (w.heap.size) 11 VB) W) := Lib.hid (fun W k => ⟨k, HRG.out _ _ k.1.tl.tl.tl.hd⟩)
  refine wp_region_noPanic ?_
  refine wp_region_held_drew (S := fun w' => Pst w w.heap.size [(g7, 27, VQ), (w.heap.size + 1 + 1, 23, VT), (w.heap.size + 1, 23, VF), (w.heap.size, 35, VP)] g9 35 17 w' ∧ w'.rangeAt (w.heap.size) 7 VA ∧ w'.rangeAt (w.heap.size) 11 VB) (by kernel_rfl) (HKR.out _ (Pst.of HK6.out.drew HL_X1.out)) (fun hHeld => ?_)
  refine wpAnyH_take (i := 0) (oi := { dst := some 44, op := Op.fieldAddr 35 (Operand.tmp 3) 8, type := 0, pos := "outright.go:41", after := #[], guard := none }) (v := ?_) rfl (by kernel_rfl) (by kernel_rfl) (by kernel_rfl) (fun _ _ _ h => h) (Or.inl ⟨by rfl, ?_⟩) (by assumption) ?_
  rotate_left
  · (intro ww hSw; (try dsimp only at hSw); go_simp; try with_reducible rfl)
  (try simp only [Act.put, List.setIfInBounds_toArray, List.set_cons_zero, List.set_cons_succ])
  refine wpAnyH_take (i := 1) (oi := { dst := some 45, op := Op.load 33 (Operand.tmp 44), type := 33, pos := "outright.go:41", after := #[{ on := 0, ground := Ground.data }], guard := none }) (v := .agg (VB).toArray) rfl (by kernel_rfl) (by kernel_rfl) (by kernel_rfl) (fun _ _ _ h => h) (yieldsIf_load_mid (by rfl) _ _ rfl (w.heap.size) 11 rfl (VB) _ (fun ww hSw => hSw.2.2) Try.underlying33 rfl HI_VB.out) (by assumption) ?_
  (try simp only [Act.put, List.setIfInBounds_toArray, List.set_cons_zero, List.set_cons_succ])
  refine wpAnyH_take (i := 2) (oi := { dst := some 46, op := Op.fieldAddr 35 (Operand.tmp 3) 7, type := 0, pos := "outright.go:41", after := #[{ on := 5, ground := Ground.gcOnly Departure.lateStores }], guard := none }) (v := ?_) rfl (by kernel_rfl) (by kernel_rfl) (by kernel_rfl) (fun _ _ _ h => h) (Or.inl ⟨by rfl, ?_⟩) (by assumption) ?_
  rotate_left
  · (intro ww hSw; (try dsimp only at hSw); go_simp; try with_reducible rfl)
  (try simp only [Act.put, List.setIfInBounds_toArray, List.set_cons_zero, List.set_cons_succ])
  refine wpAnyH_take (i := 3) (oi := { dst := some 47, op := Op.load 33 (Operand.tmp 46), type := 33, pos := "outright.go:41", after := #[{ on := 2, ground := Ground.data }, { on := 5, ground := Ground.gcOnly Departure.lateStores }], guard := none }) (v := .agg (VA).toArray) rfl (by kernel_rfl) (by kernel_rfl) (by kernel_rfl) (fun _ _ _ h => h) (yieldsIf_load_mid (by rfl) _ _ rfl (w.heap.size) 7 rfl (VA) _ (fun ww hSw => hSw.2.1) Try.underlying33 rfl HI_VA.out) (by assumption) ?_
  (try simp only [Act.put, List.setIfInBounds_toArray, List.set_cons_zero, List.set_cons_succ])
  refine wpAnyH_take (i := 4) (oi := { dst := some 48, op := Op.fieldAddr 35 (Operand.tmp 9) 7, type := 0, pos := "outright.go:41", after := #[{ on := 0, ground := Ground.phase }, { on := 1, ground := Ground.phase }, { on := 2, ground := Ground.textOnly Departure.lateStores }, { on := 3, ground := Ground.textOnly Departure.lateStores }], guard := none }) (v := ?_) rfl (by kernel_rfl) (by kernel_rfl) (by kernel_rfl) (fun _ _ _ h => h) (Or.inl ⟨by rfl, ?_⟩) (by assumption) ?_
  rotate_left
  · (intro ww hSw; (try dsimp only at hSw); go_simp; try with_reducible rfl)
  (try simp only [Act.put, List.setIfInBounds_toArray, List.set_cons_zero, List.set_cons_succ])
  refine wpAnyH_ready (rs := [5]) (by kernel_rfl) (by simp) ?_
  refine AllReadyH.cons (o := { dst := none, op := Op.store 33 (Operand.tmp 48) (Operand.tmp 45), type := 0, pos := "outright.go:41", after := #[{ on := 4, ground := Ground.data }, { on := 1, ground := Ground.data }, { on := 0, ground := Ground.phase }, { on := 1, ground := Ground.phase }, { on := 2, ground := Ground.textOnly Departure.lateStores }, { on := 3, ground := Ground.textOnly Departure.lateStores }], guard := none }) rfl (fun K hK => ?_) AllReadyH.nil
  rw [if_pos (by rfl)]
  refine wp_store_mid 33 _ _ rfl g9 7 VB.toArray rfl rfl ((And.left hHeld).thereN 7 _ (by have := HL_VB.out; simp; omega)) (by simpa using HI_VB.out) HO_VB.out ?_
  refine hK.out _ _ (HKR.out _ ((And.left hHeld).sets HNE.out.1 HNE.out.2 7 VB)) (fun hHeld => ?_)
  clear hK K
  (try simp only [Act.put])
  refine wpAnyH_take (i := 6) (oi := { dst := some 49, op := Op.fieldAddr 35 (Operand.tmp 9) 8, type := 0, pos := "outright.go:41", after := #[{ on := 0, ground := Ground.phase }, { on := 1, ground := Ground.phase }, { on := 2, ground := Ground.phase }, { on := 3, ground := Ground.phase }, { on := 4, ground := Ground.phase }, { on := 5, ground := Ground.phase }], guard := none }) (v := ?_) rfl (by kernel_rfl) (by kernel_rfl) (by kernel_rfl) (fun _ _ _ h => h) (Or.inl ⟨by rfl, ?_⟩) (by assumption) ?_
  rotate_left
  · (intro ww hSw; (try dsimp only at hSw); go_simp; try with_reducible rfl)
  (try simp only [Act.put, List.setIfInBounds_toArray, List.set_cons_zero, List.set_cons_succ])
  refine wpAnyH_ready (rs := [7]) (by kernel_rfl) (by simp) ?_
  refine AllReadyH.cons (o := { dst := none, op := Op.store 33 (Operand.tmp 49) (Operand.tmp 47), type := 0, pos := "outright.go:41", after := #[{ on := 6, ground := Ground.data }, { on := 3, ground := Ground.data }, { on := 5, ground := Ground.chain }, { on := 0, ground := Ground.phase }, { on := 1, ground := Ground.phase }, { on := 2, ground := Ground.phase }, { on := 3, ground := Ground.phase }, { on := 4, ground := Ground.phase }, { on := 5, ground := Ground.phase }], guard := none }) rfl (fun K hK => ?_) AllReadyH.nil
  rw [if_pos (by rfl)]
  refine wp_store_mid 33 _ _ rfl g9 11 VA.toArray rfl rfl ((And.left hHeld).thereN 11 _ (by have := HL_VA.out; simp; omega)) (by simpa using HI_VA.out) HO_VA.out ?_
  refine hK.out _ _ (HKR.out _ ((And.left hHeld).sets HNE.out.1 HNE.out.2 11 VA)) (fun hHeld => ?_)
  clear hK K
  (try simp only [Act.put])
  refine wpAnyH_done (by kernel_rfl) ?_ _
  refine NoPanic.normal ?_
  have hkf := (HK6.out.drew.sets1 HNE.out.1 HNE.out.2 7 VB HE2.out).sets1 HNE.out.1 HNE.out.2 11 VA HE3.out
  have HK7 : Hid (Kp w w.heap.size [(g9, 35, X3), (g7, 27, VQ), (w.heap.size + 1 + 1, 23, VT), (w.heap.size + 1, 23, VF), (w.heap.size, 35, VP)] ((w6.drew.setCells g9 7 VB).setCells g9 11 VA)) := Lib.hid hkf
  clear hkf hHeld HK6
  generalize (w6.drew.setCells g9 7 VB).setCells g9 11 VA = w7 at *
  have hr0 := HK7.out.hd.range
  have hr1 := HK7.out.tl.tl.tl.hd.range
  have hr2 := HK7.out.tl.tl.hd.range
  go_wp2_with (((with_reducible (change wpList _ _ _ _ _ _)); (first | (refine wpList_load_mid rfl 35 _ rfl (g9) 0 rfl (X3) _ hr0 Try.underlying35 rfl HI_X3.out ?_) | (refine wpList_load_mid rfl 23 _ rfl (w.heap.size + 1) 0 rfl (VF) _ hr1 Try.underlying23 rfl HI_VF.out ?_) | (refine wpList_load_mid rfl 23 _ rfl (w.heap.size + 1 + 1) 0 rfl (VT) _ hr2 Try.underlying23 rfl HI_VT.out ?_))))
  clear hr0 hr1 hr2
  refine (CG.out _).mono ?_
  rintro e w8 ⟨f2, rfl, bb⟩
  have HK8 := Lib.hid (HK7.out.below bb (Nat.le_refl _))
  clear bb HK7
  have HG9 : Hid (g9 < w8.heap.size) := Lib.hid HK8.out.hd.lt
  have ht := (bk_new w8 27 ([.int .i64 0, .int .i64 0, .int .i64 0, .int .u8 0, .int .u8 0, .int .u8 0, .int .u8 0, .int .u8 0, .int .u8 0, .int .u8 0, .int .u8 0, .int .u8 0, .int .u8 0, .int .u8 0, .int .u8 0, .int .u8 0, .int .u8 0, .int .u8 0, .int .u8 0, .int .u8 0, .int .u8 0, .int .u8 0, .int .u8 0, .int .u8 0, .int .u8 0, .int .u8 0, .int .u8 0, .int .u8 0, .int .u8 0, .int .u8 0, .int .u8 0, .int .u8 0, .int .u8 0, .int .u8 0, .int .u8 0, .slice none 0 0, .bool false, .int .u32 0, .int .i64 0, .bool false, .int .i64 0, .string ⟨#[]⟩] : List Value).toArray).there VQ.toArray.size (by have := HL_VQ.out; simp; omega)
  go_upto_region 10 with (((with_reducible (change wpList _ _ _ _ _ _)); ((refine wpList_store_mid rfl 27 _ _ rfl (w8.heap.size) 0 VQ.toArray rfl rfl ht (by simpa using HI_VQ.out) HO_VQ.out ?_))))
  have HK9 := Lib.hid (HK8.out.put 27 ([.int .i64 0, .int .i64 0, .int .i64 0, .int .u8 0, .int .u8 0, .int .u8 0, .int .u8 0, .int .u8 0, .int .u8 0, .int .u8 0, .int .u8 0, .int .u8 0, .int .u8 0, .int .u8 0, .int .u8 0, .int .u8 0, .int .u8 0, .int .u8 0, .int .u8 0, .int .u8 0, .int .u8 0, .int .u8 0, .int .u8 0, .int .u8 0, .int .u8 0, .int .u8 0, .int .u8 0, .int .u8 0, .int .u8 0, .int .u8 0, .int .u8 0, .int .u8 0, .int .u8 0, .int .u8 0, .int .u8 0, .slice none 0 0, .bool false, .int .u32 0, .int .i64 0, .bool false, .int .i64 0, .string ⟨#[]⟩] : List Value).toArray VQ (by have := HL_VQ.out; simp; omega))
  clear ht HK8
  generalize (w8.alloc (.cells ([.int .i64 0, .int .i64 0, .int .i64 0, .int .u8 0, .int .u8 0, .int .u8 0, .int .u8 0, .int .u8 0, .int .u8 0, .int .u8 0, .int .u8 0, .int .u8 0, .int .u8 0, .int .u8 0, .int .u8 0, .int .u8 0, .int .u8 0, .int .u8 0, .int .u8 0, .int .u8 0, .int .u8 0, .int .u8 0, .int .u8 0, .int .u8 0, .int .u8 0, .int .u8 0, .int .u8 0, .int .u8 0, .int .u8 0, .int .u8 0, .int .u8 0, .int .u8 0, .int .u8 0, .int .u8 0, .int .u8 0, .slice none 0 0, .bool false, .int .u32 0, .int .i64 0, .bool false, .int .i64 0, .string ⟨#[]⟩] : List Value).toArray 27)).setCells w8.heap.size 0 VQ = w9 at *
  generalize w8.heap.size = g10 at *
  have HK10 : Hid (Kp w w.heap.size [(g9, 35, X3), (g10, 27, VQ), (g7, 27, VQ), (w.heap.size + 1 + 1, 23, VT), (w.heap.size + 1, 23, VF), (w.heap.size, 35, VP)] w9) := Lib.hid ⟨fun x hx => HK9.out.1 x (by simp only [List.mem_cons, List.not_mem_nil, or_false] at hx ⊢; rcases hx with h | h | h | h | h | h <;> simp [h]), HK9.out.2⟩
  have hne : ∀ x ∈ ([(g10, 27, VQ), (g7, 27, VQ), (w.heap.size + 1 + 1, 23, VT), (w.heap.size + 1, 23, VF), (w.heap.size, 35, VP)] : List (Nat × TypeId × List Value)), x.1 ≠ g9 := by
    have hg := HG9.out
    intro x hx
    rcases List.mem_cons.1 hx with rfl | hx
    · show g10 ≠ g9; omega
    · exact HNE.out.1 x hx
  have HNF := Lib.hid hne
  clear hne HK9
  obtain ⟨uu, hu, hz⟩ := HK10.out.some1 15 (by have := HL_X3.out; omega)
  go_upto_region 11 with (fail)
  have hk := HK10.out.set1 HNF.out HNE.out.2 15 (.string ⟨#[]⟩)
  rw [HE4.out] at hk
  have HK11 := Lib.hid hk
  clear hk hu hz HK10
  generalize w9.setCell ⟨g9, 15, none⟩ (.string ⟨#[]⟩) = w11 at *
  have hr0 := HK11.out.hd.range
  have hr1 := HK11.out.tl.tl.tl.tl.hd.range
  have hr2 := HK11.out.tl.tl.tl.hd.range
  go_wp2_with (((with_reducible (change wpList _ _ _ _ _ _)); (first | (refine wpList_load_mid rfl 35 _ rfl (g9) 0 rfl (X4) _ hr0 Try.underlying35 rfl HI_X4.out ?_) | (refine wpList_load_mid rfl 23 _ rfl (w.heap.size + 1) 0 rfl (VF) _ hr1 Try.underlying23 rfl HI_VF.out ?_) | (refine wpList_load_mid rfl 23 _ rfl (w.heap.size + 1 + 1) 0 rfl (VT) _ hr2 Try.underlying23 rfl HI_VT.out ?_))))
  clear hr0 hr1 hr2
  refine (CI.out _).mono ?_
  rintro e w12 ⟨y3, rfl, bb⟩
  have HK12 := Lib.hid (HK11.out.below bb (Nat.le_refl _))
  clear bb HK11
  have ht := (bk_new w12 27 ([.int .i64 0, .int .i64 0, .int .i64 0, .int .u8 0, .int .u8 0, .int .u8 0, .int .u8 0, .int .u8 0, .int .u8 0, .int .u8 0, .int .u8 0, .int .u8 0, .int .u8 0, .int .u8 0, .int .u8 0, .int .u8 0, .int .u8 0, .int .u8 0, .int .u8 0, .int .u8 0, .int .u8 0, .int .u8 0, .int .u8 0, .int .u8 0, .int .u8 0, .int .u8 0, .int .u8 0, .int .u8 0, .int .u8 0, .int .u8 0, .int .u8 0, .int .u8 0, .int .u8 0, .int .u8 0, .int .u8 0, .slice none 0 0, .bool false, .int .u32 0, .int .i64 0, .bool false, .int .i64 0, .string ⟨#[]⟩] : List Value).toArray).there VS.toArray.size (by have := HL_VS.out; simp; omega)
  go_upto_region 12 with (((with_reducible (change wpList _ _ _ _ _ _)); ((refine wpList_store_mid rfl 27 _ _ rfl (w12.heap.size) 0 VS.toArray rfl rfl ht (by simpa using HI_VS.out) HO_VS.out ?_))))
  have HK13 := Lib.hid (HK12.out.put 27 ([.int .i64 0, .int .i64 0, .int .i64 0, .int .u8 0, .int .u8 0, .int .u8 0, .int .u8 0, .int .u8 0, .int .u8 0, .int .u8 0, .int .u8 0, .int .u8 0, .int .u8 0, .int .u8 0, .int .u8 0, .int .u8 0, .int .u8 0, .int .u8 0, .int .u8 0, .int .u8 0, .int .u8 0, .int .u8 0, .int .u8 0, .int .u8 0, .int .u8 0, .int .u8 0, .int .u8 0, .int .u8 0, .int .u8 0, .int .u8 0, .int .u8 0, .int .u8 0, .int .u8 0, .int .u8 0, .int .u8 0, .slice none 0 0, .bool false, .int .u32 0, .int .i64 0, .bool false, .int .i64 0, .string ⟨#[]⟩] : List Value).toArray VS (by have := HL_VS.out; simp; omega))
  clear ht HK12
  generalize (w12.alloc (.cells ([.int .i64 0, .int .i64 0, .int .i64 0, .int .u8 0, .int .u8 0, .int .u8 0, .int .u8 0, .int .u8 0, .int .u8 0, .int .u8 0, .int .u8 0, .int .u8 0, .int .u8 0, .int .u8 0, .int .u8 0, .int .u8 0, .int .u8 0, .int .u8 0, .int .u8 0, .int .u8 0, .int .u8 0, .int .u8 0, .int .u8 0, .int .u8 0, .int .u8 0, .int .u8 0, .int .u8 0, .int .u8 0, .int .u8 0, .int .u8 0, .int .u8 0, .int .u8 0, .int .u8 0, .int .u8 0, .int .u8 0, .slice none 0 0, .bool false, .int .u32 0, .int .i64 0, .bool false, .int .i64 0, .string ⟨#[]⟩] : List Value).toArray 27)).setCells w12.heap.size 0 VS = w13 at *
  generalize w12.heap.size = g12 at *
  refine wp_region_noPanic ?_
  refine wp_region_held_drew (S := fun w' => Kp w w.heap.size [(g12, 27, VS), (g9, 35, X4), (g10, 27, VQ), (g7, 27, VQ), (w.heap.size + 1 + 1, 23, VT), (w.heap.size + 1, 23, VF), (w.heap.size, 35, VP)] w') (by kernel_rfl) (HK13.out.drew) (fun hHeld => ?_)
  refine wpAnyH_take (i := 0) (oi := { dst := some 65, op := Op.move (Operand.tmp 8), type := 29, pos := "outright.go:45", after := #[], guard := none }) (v := ?_) rfl (by kernel_rfl) (by kernel_rfl) (by kernel_rfl) (fun _ _ _ h => h) (Or.inl ⟨by rfl, ?_⟩) (by assumption) ?_
  rotate_left
  · (intro ww hSw; (try dsimp only at hSw); go_simp; try with_reducible rfl)
  (try simp only [Act.put, List.setIfInBounds_toArray, List.set_cons_zero, List.set_cons_succ])
  refine wpAnyH_take (i := 1) (oi := { dst := some 66, op := Op.binOp BinOp.eql 29 (Operand.tmp 65) (Operand.const Value.nilIface) 29, type := 4, pos := "outright.go:45", after := #[{ on := 0, ground := Ground.data }], guard := none }) (v := ?_) rfl (by kernel_rfl) (by kernel_rfl) (by kernel_rfl) (fun _ _ _ h => h) (Or.inl ⟨by rfl, ?_⟩) (by assumption) ?_
  rotate_left
  · (intro ww hSw; (try dsimp only at hSw); go_simp; try with_reducible rfl)
  (try simp only [Act.put, List.setIfInBounds_toArray, List.set_cons_zero, List.set_cons_succ])
  refine wpAnyH_take (i := 2) (oi := { dst := some 67, op := Op.move (Operand.tmp 11), type := 29, pos := "outright.go:45", after := #[], guard := none }) (v := ?_) rfl (by kernel_rfl) (by kernel_rfl) (by kernel_rfl) (fun _ _ _ h => h) (Or.inl ⟨by rfl, ?_⟩) (by assumption) ?_
  rotate_left
  · (intro ww hSw; (try dsimp only at hSw); go_simp; try with_reducible rfl)
  (try simp only [Act.put, List.setIfInBounds_toArray, List.set_cons_zero, List.set_cons_succ])
  refine wpAnyH_take (i := 3) (oi := { dst := some 68, op := Op.binOp BinOp.eql 29 (Operand.tmp 67) (Operand.const Value.nilIface) 29, type := 4, pos := "outright.go:45", after := #[{ on := 2, ground := Ground.data }], guard := none }) (v := ?_) rfl (by kernel_rfl) (by kernel_rfl) (by kernel_rfl) (fun _ _ _ h => h) (Or.inl ⟨by rfl, ?_⟩) (by assumption) ?_
  rotate_left
  · (intro ww hSw; (try dsimp only at hSw); go_simp; try with_reducible rfl)
  (try simp only [Act.put, List.setIfInBounds_toArray, List.set_cons_zero, List.set_cons_succ])
  refine wpAnyH_take (i := 4) (oi := { dst := some 69, op := Op.binOp BinOp.neq 4 (Operand.tmp 66) (Operand.tmp 68) 4, type := 4, pos := "outright.go:45", after := #[{ on := 1, ground := Ground.data }, { on := 3, ground := Ground.data }], guard := none }) (v := ?_) rfl (by kernel_rfl) (by kernel_rfl) (by kernel_rfl) (fun _ _ _ h => h) (Or.inl ⟨by rfl, ?_⟩) (by assumption) ?_
  rotate_left
  · (intro ww hSw; (try dsimp only at hSw); go_simp; try with_reducible rfl)
  (try simp only [Act.put, List.setIfInBounds_toArray, List.set_cons_zero, List.set_cons_succ])
  refine wpAnyH_take (i := 5) (oi := { dst := some 70, op := Op.move (Operand.tmp 69), type := 4, pos := "outright.go:45", after := #[{ on := 4, ground := Ground.data }], guard := none }) (v := ?_) rfl (by kernel_rfl) (by kernel_rfl) (by kernel_rfl) (fun _ _ _ h => h) (Or.inl ⟨by rfl, ?_⟩) (by assumption) ?_
  rotate_left
  · (intro ww hSw; (try dsimp only at hSw); go_simp; try with_reducible rfl)
  (try simp only [Act.put, List.setIfInBounds_toArray, List.set_cons_zero, List.set_cons_succ])
  refine wpAnyH_take (i := 6) (oi := { dst := some 71, op := Op.move (Operand.tmp 8), type := 29, pos := "outright.go:45", after := #[{ on := 5, ground := Ground.guard }], guard := some (5, false) }) (v := ?_) rfl (by kernel_rfl) (by kernel_rfl) (by kernel_rfl) (fun _ _ _ h => h) (Or.inl ⟨by rfl, ?_⟩) (by assumption) ?_
  rotate_left
  · (intro ww hSw; (try dsimp only at hSw); go_simp; try with_reducible rfl)
  (try simp only [Act.put, List.setIfInBounds_toArray, List.set_cons_zero, List.set_cons_succ])
  refine wpAnyH_take (i := 7) (oi := { dst := some 72, op := Op.binOp BinOp.eql 29 (Operand.tmp 71) (Operand.const Value.nilIface) 29, type := 4, pos := "outright.go:45", after := #[{ on := 6, ground := Ground.data }, { on := 5, ground := Ground.guard }], guard := some (5, false) }) (v := ?_) rfl (by kernel_rfl) (by kernel_rfl) (by kernel_rfl) (fun _ _ _ h => h) (Or.inl ⟨by rfl, ?_⟩) (by assumption) ?_
  rotate_left
  · (intro ww hSw; (try dsimp only at hSw); go_simp; try with_reducible rfl)
  (try simp only [Act.put, List.setIfInBounds_toArray, List.set_cons_zero, List.set_cons_succ])
  refine wpAnyH_take (i := 8) (oi := { dst := some 73, op := Op.move (Operand.tmp 72), type := 4, pos := "outright.go:45", after := #[{ on := 7, ground := Ground.data }, { on := 5, ground := Ground.chain }, { on := 5, ground := Ground.guard }], guard := some (5, false) }) (v := ?_) rfl (by kernel_rfl) (by kernel_rfl) (by kernel_rfl) (fun _ _ _ h => h) (Or.inl ⟨by rfl, ?_⟩) (by assumption) ?_
  rotate_left
  · (intro ww hSw; (try dsimp only at hSw); go_simp; try with_reducible rfl)
  (try simp only [Act.put, List.setIfInBounds_toArray, List.set_cons_zero, List.set_cons_succ])
  refine wpAnyH_take (i := 9) (oi := { dst := some 74, op := Op.move (Operand.tmp 13), type := 29, pos := "outright.go:45", after := #[{ on := 8, ground := Ground.guard }], guard := some (8, true) }) (v := undef) rfl (by kernel_rfl) (by kernel_rfl) (by kernel_rfl) (fun _ _ _ h => h) (Or.inr ⟨by rfl, rfl⟩) (by assumption) ?_
  (try simp only [Act.put, List.setIfInBounds_toArray, List.set_cons_zero, List.set_cons_succ])
  refine wpAnyH_take (i := 10) (oi := { dst := some 75, op := Op.binOp BinOp.neq 29 (Operand.tmp 74) (Operand.const Value.nilIface) 29, type := 4, pos := "outright.go:45", after := #[{ on := 9, ground := Ground.data }, { on := 8, ground := Ground.guard }], guard := some (8, true) }) (v := undef) rfl (by kernel_rfl) (by kernel_rfl) (by kernel_rfl) (fun _ _ _ h => h) (Or.inr ⟨by rfl, rfl⟩) (by assumption) ?_
  (try simp only [Act.put, List.setIfInBounds_toArray, List.set_cons_zero, List.set_cons_succ])
  refine wpAnyH_take (i := 11) (oi := { dst := some 76, op := Op.pick (Operand.tmp 73) (Operand.tmp 75) (Operand.const (Value.bool false)), type := 4, pos := "outright.go:45", after := #[{ on := 8, ground := Ground.data }, { on := 10, ground := Ground.data }, { on := 5, ground := Ground.guard }], guard := some (5, false) }) (v := ?_) rfl (by kernel_rfl) (by kernel_rfl) (by kernel_rfl) (fun _ _ _ h => h) (Or.inl ⟨by rfl, ?_⟩) (by assumption) ?_
  rotate_left
  · (intro ww hSw; (try dsimp only at hSw); go_simp; try with_reducible rfl)
  (try simp only [Act.put, List.setIfInBounds_toArray, List.set_cons_zero, List.set_cons_succ])
  refine wpAnyH_take (i := 12) (oi := { dst := some 77, op := Op.pick (Operand.tmp 70) (Operand.const (Value.bool true)) (Operand.tmp 76), type := 4, pos := "outright.go:45", after := #[{ on := 5, ground := Ground.data }, { on := 11, ground := Ground.data }], guard := none }) (v := ?_) rfl (by kernel_rfl) (by kernel_rfl) (by kernel_rfl) (fun _ _ _ h => h) (Or.inl ⟨by rfl, ?_⟩) (by assumption) ?_
  rotate_left
  · (intro ww hSw; (try dsimp only at hSw); go_simp; try with_reducible rfl)
  (try simp only [Act.put, List.setIfInBounds_toArray, List.set_cons_zero, List.set_cons_succ])
  refine wpAnyH_done (by kernel_rfl) ?_ _
  refine NoPanic.normal ?_
  have HK14 : Hid (Kp w w.heap.size [(g12, 27, VS), (g9, 35, X4), (g10, 27, VQ), (g7, 27, VQ), (w.heap.size + 1 + 1, 23, VT), (w.heap.size + 1, 23, VF), (w.heap.size, 35, VP)] w13.drew) := Lib.hid hHeld
  clear hHeld HK13
  generalize w13.drew = w14 at *
  have hr0 := HK14.out.tl.tl.tl.hd.range
  go_wp2_with (((with_reducible (change wpList _ _ _ _ _ _)); ((refine wpList_load_mid rfl 27 _ rfl (g7) 0 rfl (VQ) _ hr0 Try.underlying27 rfl HI_VQ.out ?_))))
  clear hr0
  refine (CB.out _).mono ?_
  rintro e w15 ⟨f4, rfl, bb⟩
  have HK15 := Lib.hid (HK14.out.below bb (Nat.le_refl _))
  clear bb HK14
  have hr0 := HK15.out.tl.tl.hd.range
  go_wp2_with (((with_reducible (change wpList _ _ _ _ _ _)); ((refine wpList_load_mid rfl 27 _ rfl (g10) 0 rfl (VQ) _ hr0 Try.underlying27 rfl HI_VQ.out ?_))))
  clear hr0
  refine (CB.out _).mono ?_
  rintro e w16 ⟨f5, rfl, bb⟩
  have HK16 := Lib.hid (HK15.out.below bb (Nat.le_refl _))
  clear bb HK15
  have hr0 := HK16.out.hd.range
  go_wp2_with (((with_reducible (change wpList _ _ _ _ _ _)); ((refine wpList_load_mid rfl 27 _ rfl (g12) 0 rfl (VS) _ hr0 Try.underlying27 rfl HI_VS.out ?_))))
  clear hr0
  refine (CD.out _).mono ?_
  rintro e w17 ⟨s6, y6, rfl, bb⟩
  have HK17 := Lib.hid (HK16.out.below bb (Nat.le_refl _))
  clear bb HK16
  go_upto_region 17 with (fail)
  refine wp_region_noPanic ?_
  refine wp_region_held_drew (S := fun w' => Kp w w.heap.size [(g12, 27, VS), (g9, 35, X4), (g10, 27, VQ), (g7, 27, VQ), (w.heap.size + 1 + 1, 23, VT), (w.heap.size + 1, 23, VF), (w.heap.size, 35, VP)] w') (by kernel_rfl) (HK17.out.drew) (fun hHeld => ?_)
  refine wpAnyH_take (i := 0) (oi := { dst := some 93, op := Op.move (Operand.tmp 15), type := 29, pos := "outright.go:51", after := #[], guard := none }) (v := ?_) rfl (by kernel_rfl) (by kernel_rfl) (by kernel_rfl) (fun _ _ _ h => h) (Or.inl ⟨by rfl, ?_⟩) (by assumption) ?_
  rotate_left
  · (intro ww hSw; (try dsimp only at hSw); go_simp; try with_reducible rfl)
  (try simp only [Act.put, List.setIfInBounds_toArray, List.set_cons_zero, List.set_cons_succ])
  refine wpAnyH_take (i := 1) (oi := { dst := some 94, op := Op.binOp BinOp.eql 29 (Operand.tmp 93) (Operand.const Value.nilIface) 29, type := 4, pos := "outright.go:51", after := #[{ on := 0, ground := Ground.data }], guard := none }) (v := ?_) rfl (by kernel_rfl) (by kernel_rfl) (by kernel_rfl) (fun _ _ _ h => h) (Or.inl ⟨by rfl, ?_⟩) (by assumption) ?_
  rotate_left
  · (intro ww hSw; (try dsimp only at hSw); go_simp; try with_reducible rfl)
  (try simp only [Act.put, List.setIfInBounds_toArray, List.set_cons_zero, List.set_cons_succ])
  refine wpAnyH_take (i := 2) (oi := { dst := some 95, op := Op.move (Operand.tmp 17), type := 29, pos := "outright.go:51", after := #[], guard := none }) (v := ?_) rfl (by kernel_rfl) (by kernel_rfl) (by kernel_rfl) (fun _ _ _ h => h) (Or.inl ⟨by rfl, ?_⟩) (by assumption) ?_
  rotate_left
  · (intro ww hSw; (try dsimp only at hSw); go_simp; try with_reducible rfl)
  (try simp only [Act.put, List.setIfInBounds_toArray, List.set_cons_zero, List.set_cons_succ])
  refine wpAnyH_take (i := 3) (oi := { dst := some 96, op := Op.binOp BinOp.eql 29 (Operand.tmp 95) (Operand.const Value.nilIface) 29, type := 4, pos := "outright.go:51", after := #[{ on := 2, ground := Ground.data }], guard := none }) (v := ?_) rfl (by kernel_rfl) (by kernel_rfl) (by kernel_rfl) (fun _ _ _ h => h) (Or.inl ⟨by rfl, ?_⟩) (by assumption) ?_
  rotate_left
  · (intro ww hSw; (try dsimp only at hSw); go_simp; try with_reducible rfl)
  (try simp only [Act.put, List.setIfInBounds_toArray, List.set_cons_zero, List.set_cons_succ])
  refine wpAnyH_take (i := 4) (oi := { dst := some 97, op := Op.binOp BinOp.eql 4 (Operand.tmp 94) (Operand.tmp 96) 4, type := 4, pos := "outright.go:51", after := #[{ on := 1, ground := Ground.data }, { on := 3, ground := Ground.data }], guard := none }) (v := ?_) rfl (by kernel_rfl) (by kernel_rfl) (by kernel_rfl) (fun _ _ _ h => h) (Or.inl ⟨by rfl, ?_⟩) (by assumption) ?_
  rotate_left
  · (intro ww hSw; (try dsimp only at hSw); go_simp; try with_reducible rfl)
  (try simp only [Act.put, List.setIfInBounds_toArray, List.set_cons_zero, List.set_cons_succ])
  refine wpAnyH_take (i := 5) (oi := { dst := some 98, op := Op.move (Operand.tmp 97), type := 4, pos := "outright.go:51", after := #[{ on := 4, ground := Ground.data }], guard := none }) (v := ?_) rfl (by kernel_rfl) (by kernel_rfl) (by kernel_rfl) (fun _ _ _ h => h) (Or.inl ⟨by rfl, ?_⟩) (by assumption) ?_
  rotate_left
  · (intro ww hSw; (try dsimp only at hSw); go_simp; try with_reducible rfl)
  (try simp only [Act.put, List.setIfInBounds_toArray, List.set_cons_zero, List.set_cons_succ])
  refine wpAnyH_take (i := 6) (oi := { dst := some 99, op := Op.move (Operand.tmp 14), type := 9, pos := "outright.go:51", after := #[{ on := 5, ground := Ground.guard }], guard := some (5, true) }) (v := ?_) rfl (by kernel_rfl) (by kernel_rfl) (by kernel_rfl) (fun _ _ _ h => h) (Or.inl ⟨by rfl, ?_⟩) (by assumption) ?_
  rotate_left
  · (intro ww hSw; (try dsimp only at hSw); go_simp; try with_reducible rfl)
  (try simp only [Act.put, List.setIfInBounds_toArray, List.set_cons_zero, List.set_cons_succ])
  refine wpAnyH_take (i := 7) (oi := { dst := some 100, op := Op.move (Operand.tmp 16), type := 9, pos := "outright.go:51", after := #[{ on := 5, ground := Ground.guard }], guard := some (5, true) }) (v := ?_) rfl (by kernel_rfl) (by kernel_rfl) (by kernel_rfl) (fun _ _ _ h => h) (Or.inl ⟨by rfl, ?_⟩) (by assumption) ?_
  rotate_left
  · (intro ww hSw; (try dsimp only at hSw); go_simp; try with_reducible rfl)
  (try simp only [Act.put, List.setIfInBounds_toArray, List.set_cons_zero, List.set_cons_succ])
  refine wpAnyH_take (i := 8) (oi := { dst := some 101, op := Op.binOp BinOp.eql 9 (Operand.tmp 99) (Operand.tmp 100) 9, type := 4, pos := "outright.go:51", after := #[{ on := 6, ground := Ground.data }, { on := 7, ground := Ground.data }, { on := 5, ground := Ground.guard }], guard := some (5, true) }) (v := ?_) rfl (by kernel_rfl) (by kernel_rfl) (by kernel_rfl) (fun _ _ _ h => h) (Or.inl ⟨by rfl, ?_⟩) (by assumption) ?_
  rotate_left
  · (intro ww hSw; (try dsimp only at hSw); go_simp; try with_reducible rfl)
  (try simp only [Act.put, List.setIfInBounds_toArray, List.set_cons_zero, List.set_cons_succ])
  refine wpAnyH_take (i := 9) (oi := { dst := some 102, op := Op.pick (Operand.tmp 98) (Operand.tmp 101) (Operand.const (Value.bool false)), type := 4, pos := "outright.go:51", after := #[{ on := 5, ground := Ground.data }, { on := 8, ground := Ground.data }], guard := none }) (v := ?_) rfl (by kernel_rfl) (by kernel_rfl) (by kernel_rfl) (fun _ _ _ h => h) (Or.inl ⟨by rfl, ?_⟩) (by assumption) ?_
  rotate_left
  · (intro ww hSw; (try dsimp only at hSw); go_simp; try with_reducible rfl)
  (try simp only [Act.put, List.setIfInBounds_toArray, List.set_cons_zero, List.set_cons_succ])
  refine wpAnyH_take (i := 10) (oi := { dst := some 103, op := Op.move (Operand.tmp 102), type := 4, pos := "outright.go:51", after := #[{ on := 9, ground := Ground.data }, { on := 5, ground := Ground.chain }], guard := none }) (v := ?_) rfl (by kernel_rfl) (by kernel_rfl) (by kernel_rfl) (fun _ _ _ h => h) (Or.inl ⟨by rfl, ?_⟩) (by assumption) ?_
  rotate_left
  · (intro ww hSw; (try dsimp only at hSw); go_simp; try with_reducible rfl)
  (try simp only [Act.put, List.setIfInBounds_toArray, List.set_cons_zero, List.set_cons_succ])
  refine wpAnyH_take (i := 11) (oi := { dst := some 104, op := Op.move (Operand.tmp 8), type := 29, pos := "outright.go:51", after := #[{ on := 10, ground := Ground.guard }], guard := some (10, true) }) (v := ?_) rfl (by kernel_rfl) (by kernel_rfl) (by kernel_rfl) (fun _ _ _ h => h) (Or.inl ⟨by rfl, ?_⟩) (by assumption) ?_
  rotate_left
  · (intro ww hSw; (try dsimp only at hSw); go_simp; try with_reducible rfl)
  (try simp only [Act.put, List.setIfInBounds_toArray, List.set_cons_zero, List.set_cons_succ])
  refine wpAnyH_take (i := 12) (oi := { dst := some 105, op := Op.binOp BinOp.neq 29 (Operand.tmp 104) (Operand.const Value.nilIface) 29, type := 4, pos := "outright.go:51", after := #[{ on := 11, ground := Ground.data }, { on := 10, ground := Ground.guard }], guard := some (10, true) }) (v := ?_) rfl (by kernel_rfl) (by kernel_rfl) (by kernel_rfl) (fun _ _ _ h => h) (Or.inl ⟨by rfl, ?_⟩) (by assumption) ?_
  rotate_left
  · (intro ww hSw; (try dsimp only at hSw); go_simp; try with_reducible rfl)
  (try simp only [Act.put, List.setIfInBounds_toArray, List.set_cons_zero, List.set_cons_succ])
  refine wpAnyH_take (i := 13) (oi := { dst := some 106, op := Op.move (Operand.tmp 105), type := 4, pos := "outright.go:51", after := #[{ on := 12, ground := Ground.data }, { on := 10, ground := Ground.chain }, { on := 10, ground := Ground.guard }], guard := some (10, true) }) (v := ?_) rfl (by kernel_rfl) (by kernel_rfl) (by kernel_rfl) (fun _ _ _ h => h) (Or.inl ⟨by rfl, ?_⟩) (by assumption) ?_
  rotate_left
  · (intro ww hSw; (try dsimp only at hSw); go_simp; try with_reducible rfl)
  (try simp only [Act.put, List.setIfInBounds_toArray, List.set_cons_zero, List.set_cons_succ])
  refine wpAnyH_take (i := 14) (oi := { dst := some 107, op := Op.move (Operand.tmp 15), type := 29, pos := "outright.go:51", after := #[{ on := 13, ground := Ground.guard }], guard := some (13, false) }) (v := undef) rfl (by kernel_rfl) (by kernel_rfl) (by kernel_rfl) (fun _ _ _ h => h) (Or.inr ⟨by rfl, rfl⟩) (by assumption) ?_
  (try simp only [Act.put, List.setIfInBounds_toArray, List.set_cons_zero, List.set_cons_succ])
  refine wpAnyH_take (i := 15) (oi := { dst := some 108, op := Op.binOp BinOp.eql 29 (Operand.tmp 107) (Operand.const Value.nilIface) 29, type := 4, pos := "outright.go:51", after := #[{ on := 14, ground := Ground.data }, { on := 13, ground := Ground.guard }], guard := some (13, false) }) (v := undef) rfl (by kernel_rfl) (by kernel_rfl) (by kernel_rfl) (fun _ _ _ h => h) (Or.inr ⟨by rfl, rfl⟩) (by assumption) ?_
  (try simp only [Act.put, List.setIfInBounds_toArray, List.set_cons_zero, List.set_cons_succ])
  refine wpAnyH_take (i := 16) (oi := { dst := some 109, op := Op.move (Operand.tmp 19), type := 29, pos := "outright.go:51", after := #[{ on := 13, ground := Ground.guard }], guard := some (13, false) }) (v := undef) rfl (by kernel_rfl) (by kernel_rfl) (by kernel_rfl) (fun _ _ _ h => h) (Or.inr ⟨by rfl, rfl⟩) (by assumption) ?_
  (try simp only [Act.put, List.setIfInBounds_toArray, List.set_cons_zero, List.set_cons_succ])
  refine wpAnyH_take (i := 17) (oi := { dst := some 110, op := Op.binOp BinOp.eql 29 (Operand.tmp 109) (Operand.const Value.nilIface) 29, type := 4, pos := "outright.go:51", after := #[{ on := 16, ground := Ground.data }, { on := 13, ground := Ground.guard }], guard := some (13, false) }) (v := undef) rfl (by kernel_rfl) (by kernel_rfl) (by kernel_rfl) (fun _ _ _ h => h) (Or.inr ⟨by rfl, rfl⟩) (by assumption) ?_
  (try simp only [Act.put, List.setIfInBounds_toArray, List.set_cons_zero, List.set_cons_succ])
  refine wpAnyH_take (i := 18) (oi := { dst := some 111, op := Op.binOp BinOp.eql 4 (Operand.tmp 108) (Operand.tmp 110) 4, type := 4, pos := "outright.go:51", after := #[{ on := 15, ground := Ground.data }, { on := 17, ground := Ground.data }, { on := 13, ground := Ground.guard }], guard := some (13, false) }) (v := undef) rfl (by kernel_rfl) (by kernel_rfl) (by kernel_rfl) (fun _ _ _ h => h) (Or.inr ⟨by rfl, rfl⟩) (by assumption) ?_
  (try simp only [Act.put, List.setIfInBounds_toArray, List.set_cons_zero, List.set_cons_succ])
  refine wpAnyH_take (i := 19) (oi := { dst := some 112, op := Op.move (Operand.tmp 111), type := 4, pos := "outright.go:51", after := #[{ on := 18, ground := Ground.data }, { on := 13, ground := Ground.chain }, { on := 13, ground := Ground.guard }], guard := some (13, false) }) (v := undef) rfl (by kernel_rfl) (by kernel_rfl) (by kernel_rfl) (fun _ _ _ h => h) (Or.inr ⟨by rfl, rfl⟩) (by assumption) ?_
  (try simp only [Act.put, List.setIfInBounds_toArray, List.set_cons_zero, List.set_cons_succ])
  refine wpAnyH_take (i := 20) (oi := { dst := some 113, op := Op.move (Operand.tmp 14), type := 9, pos := "outright.go:51", after := #[{ on := 19, ground := Ground.guard }], guard := some (19, true) }) (v := undef) rfl (by kernel_rfl) (by kernel_rfl) (by kernel_rfl) (fun _ _ _ h => h) (Or.inr ⟨by rfl, rfl⟩) (by assumption) ?_
  (try simp only [Act.put, List.setIfInBounds_toArray, List.set_cons_zero, List.set_cons_succ])
  refine wpAnyH_take (i := 21) (oi := { dst := some 114, op := Op.move (Operand.tmp 18), type := 9, pos := "outright.go:51", after := #[{ on := 19, ground := Ground.guard }], guard := some (19, true) }) (v := undef) rfl (by kernel_rfl) (by kernel_rfl) (by kernel_rfl) (fun _ _ _ h => h) (Or.inr ⟨by rfl, rfl⟩) (by assumption) ?_
  (try simp only [Act.put, List.setIfInBounds_toArray, List.set_cons_zero, List.set_cons_succ])
  refine wpAnyH_take (i := 22) (oi := { dst := some 115, op := Op.binOp BinOp.eql 9 (Operand.tmp 113) (Operand.tmp 114) 9, type := 4, pos := "outright.go:51", after := #[{ on := 20, ground := Ground.data }, { on := 21, ground := Ground.data }, { on := 19, ground := Ground.guard }], guard := some (19, true) }) (v := undef) rfl (by kernel_rfl) (by kernel_rfl) (by kernel_rfl) (fun _ _ _ h => h) (Or.inr ⟨by rfl, rfl⟩) (by assumption) ?_
  (try simp only [Act.put, List.setIfInBounds_toArray, List.set_cons_zero, List.set_cons_succ])
  refine wpAnyH_take (i := 23) (oi := { dst := some 116, op := Op.pick (Operand.tmp 112) (Operand.tmp 115) (Operand.const (Value.bool false)), type := 4, pos := "outright.go:51", after := #[{ on := 19, ground := Ground.data }, { on := 22, ground := Ground.data }, { on := 13, ground := Ground.guard }], guard := some (13, false) }) (v := undef) rfl (by kernel_rfl) (by kernel_rfl) (by kernel_rfl) (fun _ _ _ h => h) (Or.inr ⟨by rfl, rfl⟩) (by assumption) ?_
  (try simp only [Act.put, List.setIfInBounds_toArray, List.set_cons_zero, List.set_cons_succ])
  refine wpAnyH_take (i := 24) (oi := { dst := some 117, op := Op.pick (Operand.tmp 106) (Operand.const (Value.bool true)) (Operand.tmp 116), type := 4, pos := "outright.go:51", after := #[{ on := 13, ground := Ground.data }, { on := 23, ground := Ground.data }, { on := 10, ground := Ground.guard }], guard := some (10, true) }) (v := ?_) rfl (by kernel_rfl) (by kernel_rfl) (by kernel_rfl) (fun _ _ _ h => h) (Or.inl ⟨by rfl, ?_⟩) (by assumption) ?_
  rotate_left
  · (intro ww hSw; (try dsimp only at hSw); go_simp; try with_reducible rfl)
  (try simp only [Act.put, List.setIfInBounds_toArray, List.set_cons_zero, List.set_cons_succ])
  refine wpAnyH_take (i := 25) (oi := { dst := some 118, op := Op.pick (Operand.tmp 103) (Operand.tmp 117) (Operand.const (Value.bool false)), type := 4, pos := "outright.go:51", after := #[{ on := 10, ground := Ground.data }, { on := 24, ground := Ground.data }], guard := none }) (v := ?_) rfl (by kernel_rfl) (by kernel_rfl) (by kernel_rfl) (fun _ _ _ h => h) (Or.inl ⟨by rfl, ?_⟩) (by assumption) ?_
  rotate_left
  · (intro ww hSw; (try dsimp only at hSw); go_simp; try with_reducible rfl)
  (try simp only [Act.put, List.setIfInBounds_toArray, List.set_cons_zero, List.set_cons_succ])
  refine wpAnyH_take (i := 26) (oi := { dst := some 6, op := Op.assign (Operand.tmp 118), type := 4, pos := "outright.go:51", after := #[{ on := 25, ground := Ground.data }, { on := 19, ground := Ground.chain }, { on := 0, ground := Ground.phase }, { on := 1, ground := Ground.phase }, { on := 2, ground := Ground.phase }, { on := 3, ground := Ground.phase }, { on := 4, ground := Ground.phase }, { on := 5, ground := Ground.phase }, { on := 6, ground := Ground.phase }, { on := 7, ground := Ground.phase }, { on := 8, ground := Ground.phase }, { on := 9, ground := Ground.phase }, { on := 10, ground := Ground.phase }, { on := 11, ground := Ground.phase }, { on := 12, ground := Ground.phase }, { on := 13, ground := Ground.phase }, { on := 14, ground := Ground.phase }, { on := 15, ground := Ground.phase }, { on := 16, ground := Ground.phase }, { on := 17, ground := Ground.phase }, { on := 18, ground := Ground.phase }, { on := 19, ground := Ground.phase }, { on := 20, ground := Ground.phase }, { on := 21, ground := Ground.phase }, { on := 22, ground := Ground.phase }, { on := 23, ground := Ground.phase }, { on := 24, ground := Ground.phase }, { on := 25, ground := Ground.phase }], guard := none }) (v := ?_) rfl (by kernel_rfl) (by kernel_rfl) (by kernel_rfl) (fun _ _ _ h => h) (Or.inl ⟨by rfl, ?_⟩) (by assumption) ?_
  rotate_left
  · (intro ww hSw; (try dsimp only at hSw); go_simp; try with_reducible rfl)
  (try simp only [Act.put, List.setIfInBounds_toArray, List.set_cons_zero, List.set_cons_succ])
  refine wpAnyH_done (by kernel_rfl) ?_ _
  refine NoPanic.normal ?_
  have HE := Lib.hid hHeld.2.1
  clear hHeld
  go_wp2_with (fail)
  go_ret
  refine ⟨?_, HE.out⟩
  first | rfl | simp
end Go.Proofs.Ytdljjcnihajchaa
