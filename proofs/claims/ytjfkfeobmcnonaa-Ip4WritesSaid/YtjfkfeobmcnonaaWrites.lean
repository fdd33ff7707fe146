/-
  Proved here: the law Ip4Writes answers true, and leaves old memory as it was.
  Conditions: none.
-/
import Derived.Test.YtjfkfeobmcnonaaRefBytes
namespace Go.Proofs.Ytjfkfeobmcnonaa
open Go.RowKit

set_option maxRecDepth 100000 in
set_option maxHeartbeats 400000 in
theorem ip4Writes_long (p : Pkt) (w : World) (h : 70000 < p.data.size) :
    Calls Try.prog 4 #[.agg p.vals.toArray] w fun e w' => e = .returned (.bool true) ∧ Below w.heap.size w w' := by
  obtain ⟨V, hV⟩ : ∃ V, V = (p).vals := ⟨_, rfl⟩
  have HIV : Hid ((Try.prog.info? 29).map (·.size) = some V.length) := Lib.hid (by rw [hV]; exact Try.infoIp (p))
  have HOV : Hid (V.toArray.all (·.oneCell') = true) := Lib.hid (by rw [hV]; exact vals_one (p))
  have HPV : Hid (∀ q : Pkt, puts q.vals.toArray 0 V = V.toArray) := Lib.hid (fun q => by rw [hV]; exact puts_all q (p))
  have HSV : Hid (V.toArray.size = 17) := Lib.hid (by rw [hV]; rfl)
  have HC : Hid (V[16]? = some (.string p.data) ∧ V[15]? = some (.string p.opts)) := Lib.hid (by rw [hV]; exact ⟨rfl, rfl⟩)
  rw [← hV]
  have HV := Lib.hid hV
  clear hV
  have HQ0 := Lib.hid (QB.new w V)
  go_enter Try.func4, Try.ntmps4
  go_wp2_with fail
  refine (awake_true _).mono ?_
  rintro e w1 ⟨rfl, b1⟩
  have HQw1 := Lib.hid (HQ0.out.below b1 (Nat.le_refl _))
  clear b1 HQ0
  have c16 := HQw1.out.at HC.out.1
  have c15 := HQw1.out.at HC.out.2
  go_wp2_with fail
  go_ret
  exact ⟨rfl, HQw1.out.2.1⟩
set_option maxRecDepth 100000 in
set_option maxHeartbeats 400000 in
theorem ip4Writes_wide (p : Pkt) (w : World) (h : p.data.size ≤ 70000) (h2 : 1000 < p.opts.size) :
    Calls Try.prog 4 #[.agg p.vals.toArray] w fun e w' => e = .returned (.bool true) ∧ Below w.heap.size w w' := by
  obtain ⟨V, hV⟩ : ∃ V, V = (p).vals := ⟨_, rfl⟩
  have HIV : Hid ((Try.prog.info? 29).map (·.size) = some V.length) := Lib.hid (by rw [hV]; exact Try.infoIp (p))
  have HOV : Hid (V.toArray.all (·.oneCell') = true) := Lib.hid (by rw [hV]; exact vals_one (p))
  have HPV : Hid (∀ q : Pkt, puts q.vals.toArray 0 V = V.toArray) := Lib.hid (fun q => by rw [hV]; exact puts_all q (p))
  have HSV : Hid (V.toArray.size = 17) := Lib.hid (by rw [hV]; rfl)
  have HC : Hid (V[16]? = some (.string p.data) ∧ V[15]? = some (.string p.opts)) := Lib.hid (by rw [hV]; exact ⟨rfl, rfl⟩)
  rw [← hV]
  have HV := Lib.hid hV
  clear hV
  have HQ0 := Lib.hid (QB.new w V)
  go_enter Try.func4, Try.ntmps4
  go_wp2_with fail
  refine (awake_true _).mono ?_
  rintro e w1 ⟨rfl, b1⟩
  have HQw1 := Lib.hid (HQ0.out.below b1 (Nat.le_refl _))
  clear b1 HQ0
  have c16 := HQw1.out.at HC.out.1
  have c15 := HQw1.out.at HC.out.2
  go_wp2_with fail
  go_ret
  exact ⟨rfl, HQw1.out.2.1⟩
set_option maxRecDepth 100000 in
set_option maxHeartbeats 400000 in
theorem ip4Writes_none (p : Pkt) (w : World) (hd : p.data.size ≤ 70000) (ho : p.opts.size ≤ 1000) (hw : p.why ≠ 0) :
    Calls Try.prog 4 #[.agg p.vals.toArray] w fun e w' => e = .returned (.bool true) ∧ Below w.heap.size w w' := by
  obtain ⟨V, hV⟩ : ∃ V, V = (p).vals := ⟨_, rfl⟩
  have HIV : Hid ((Try.prog.info? 29).map (·.size) = some V.length) := Lib.hid (by rw [hV]; exact Try.infoIp (p))
  have HOV : Hid (V.toArray.all (·.oneCell') = true) := Lib.hid (by rw [hV]; exact vals_one (p))
  have HPV : Hid (∀ q : Pkt, puts q.vals.toArray 0 V = V.toArray) := Lib.hid (fun q => by rw [hV]; exact puts_all q (p))
  have HSV : Hid (V.toArray.size = 17) := Lib.hid (by rw [hV]; rfl)
  have HC : Hid (V[16]? = some (.string p.data) ∧ V[15]? = some (.string p.opts)) := Lib.hid (by rw [hV]; exact ⟨rfl, rfl⟩)
  have HBy : Hid (∀ W, Calls Try.prog 13 #[.agg V.toArray] W (Bad (.string ⟨#[]⟩) p.why W)) := Lib.hid (fun W => by rw [hV]; exact bytes_bad p W hd (bne_iff_ne.2 hw))
  have HRb : Hid (∀ W, Calls Try.prog 20 #[.agg V.toArray] W fun e w' => e = .returned (.tuple #[.string ⟨#[]⟩, .int .i64 p.why]) ∧ Below W.heap.size W w') := Lib.hid (fun W => by rw [hV]; exact rbytes_bad p W hd (by omega) (bne_iff_ne.2 hw))
  have HCC : Hid ((p.why == 0) = false) := Lib.hid (by rw [beq_eq_false_iff_ne]; exact hw)
  clear hw
  generalize p.why = cc at *
  rw [← hV]
  have HV := Lib.hid hV
  clear hV
  have HQ0 := Lib.hid (QB.new w V)
  go_enter Try.func4, Try.ntmps4
  go_wp2_with fail
  refine (awake_true _).mono ?_
  rintro e w1 ⟨rfl, b1⟩
  have HQw1 := Lib.hid (HQ0.out.below b1 (Nat.le_refl _))
  clear b1 HQ0
  have c16 := HQw1.out.at HC.out.1
  have c15 := HQw1.out.at HC.out.2
  have hr : w1.rangeAt w.heap.size 0 V := HQw1.out.1.range
  go_wp2_with (refine wpList_load_mid rfl 29 _ rfl w.heap.size 0 rfl V _ hr Try.underlying29 rfl HIV.out ?_)
  clear hr c15 c16
  refine (HBy.out _).mono ?_
  rintro e w2 ⟨fb, rfl, hfl, hfb, bb⟩
  have HQw2 := Lib.hid (HQw1.out.below bb (Nat.le_refl _))
  have HF2 := Lib.hid hfl
  clear bb hfl hfb HQw1
  have hr : w2.rangeAt w.heap.size 0 V := HQw2.out.1.range
  go_wp2_with (refine wpList_load_mid rfl 29 _ rfl w.heap.size 0 rfl V _ hr Try.underlying29 rfl HIV.out ?_)
  clear hr
  refine (HRb.out _).mono ?_
  rintro e w3 ⟨rfl, bb⟩
  have HQw3 := Lib.hid (HQw2.out.below bb (Nat.le_refl _))
  have HF3 := Lib.hid (HF2.out.below bb HF2.out.lt)
  clear bb HQw2 HF2
  go_wp2_with fail
  refine (same_fault HF3.out HCC.out).mono ?_
  rintro e w4 ⟨rfl, rfl⟩
  go_wp2_with fail
  go_ret
  exact ⟨rfl, HQw3.out.2.1⟩
set_option maxRecDepth 100000 in
set_option maxHeartbeats 400000 in
theorem ip4Writes_packet (p : Pkt) (w : World) (hd : p.data.size ≤ 70000) (ho : p.opts.size ≤ 1000) (hw : p.why = 0) (ha : p.byt) :
    Calls Try.prog 4 #[.agg p.vals.toArray] w fun e w' => e = .returned (.bool true) ∧ Below w.heap.size w w' := by
  obtain ⟨V, hV⟩ : ∃ V, V = (p).vals := ⟨_, rfl⟩
  have HIV : Hid ((Try.prog.info? 29).map (·.size) = some V.length) := Lib.hid (by rw [hV]; exact Try.infoIp (p))
  have HOV : Hid (V.toArray.all (·.oneCell') = true) := Lib.hid (by rw [hV]; exact vals_one (p))
  have HPV : Hid (∀ q : Pkt, puts q.vals.toArray 0 V = V.toArray) := Lib.hid (fun q => by rw [hV]; exact puts_all q (p))
  have HSV : Hid (V.toArray.size = 17) := Lib.hid (by rw [hV]; rfl)
  have HC : Hid (V[16]? = some (.string p.data) ∧ V[15]? = some (.string p.opts)) := Lib.hid (by rw [hV]; exact ⟨rfl, rfl⟩)
  have HBy : Hid (∀ W, Calls Try.prog 13 #[.agg V.toArray] W fun e w' => e = .returned (.tuple #[.string p.bytes, .nilIface]) ∧ Below W.heap.size W w') := Lib.hid (fun W => by rw [hV]; exact bytes_ok p W hw)
  have HRb : Hid (∀ W, Calls Try.prog 20 #[.agg V.toArray] W fun e w' => e = .returned (.tuple #[.string p.bytes, .int .i64 0]) ∧ Below W.heap.size W w') := Lib.hid (fun W => by rw [hV]; exact rbytes_ok p W hw ha)
  clear hw ha
  generalize p.bytes = X at *
  rw [← hV]
  have HV := Lib.hid hV
  clear hV
  have HQ0 := Lib.hid (QB.new w V)
  go_enter Try.func4, Try.ntmps4
  go_wp2_with fail
  refine (awake_true _).mono ?_
  rintro e w1 ⟨rfl, b1⟩
  have HQw1 := Lib.hid (HQ0.out.below b1 (Nat.le_refl _))
  clear b1 HQ0
  have c16 := HQw1.out.at HC.out.1
  have c15 := HQw1.out.at HC.out.2
  have hr : w1.rangeAt w.heap.size 0 V := HQw1.out.1.range
  go_wp2_with (refine wpList_load_mid rfl 29 _ rfl w.heap.size 0 rfl V _ hr Try.underlying29 rfl HIV.out ?_)
  clear hr c15 c16
  refine (HBy.out _).mono ?_
  rintro e w2 ⟨rfl, bb⟩
  have HQw2 := Lib.hid (HQw1.out.below bb (Nat.le_refl _))
  clear bb HQw1
  have hr : w2.rangeAt w.heap.size 0 V := HQw2.out.1.range
  go_wp2_with (refine wpList_load_mid rfl 29 _ rfl w.heap.size 0 rfl V _ hr Try.underlying29 rfl HIV.out ?_)
  clear hr
  refine (HRb.out _).mono ?_
  rintro e w3 ⟨rfl, bb⟩
  have HQw3 := Lib.hid (HQw2.out.below bb (Nat.le_refl _))
  clear bb HQw2
  go_wp2_with fail
  refine (same_ok _).mono ?_
  rintro e w4 ⟨rfl, rfl⟩
  go_wp2_with fail
  go_ret
  exact ⟨rfl, HQw3.out.2.1⟩
theorem ip4Writes_any (p : Pkt) (w : World) (ha : p.byt) :
    Calls Try.prog 4 #[.agg p.vals.toArray] w fun e w' => e = .returned (.bool true) ∧ Below w.heap.size w w' := by
  by_cases hd : p.data.size ≤ 70000
  · by_cases ho : p.opts.size ≤ 1000
    · by_cases hw : p.why = 0
      · exact ip4Writes_packet p w hd ho hw ha
      · exact ip4Writes_none p w hd ho hw
    · exact ip4Writes_wide p w hd (by omega)
  · exact ip4Writes_long p w (by omega)
end Go.Proofs.Ytjfkfeobmcnonaa
