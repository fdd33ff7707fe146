/-
  Proved here: the law Ip4Known answers true, and leaves old memory as it was.
  Conditions: none.
-/
import Derived.Test.YtjfkfeobmcnonaaLawKit
import Derived.Test.YtjfkfeobmcnonaaRound
import Derived.Test.YtjfkfeobmcnonaaRoute
import Derived.Test.YtjfkfeobmcnonaaUsed
import Derived.Test.YtjfkfeobmcnonaaShelf
namespace Go.Proofs.Ytjfkfeobmcnonaa
open Go.RowKit

/-- Faults that lie in memory. -/
def Flts (w : World) (l : List (Nat × Int)) : Prop := ∀ x ∈ l, Flt w x.1 x.2 0
theorem Flts.below {w w' : World} {l : List (Nat × Int)} (h : Flts w l) (hb : Below w.heap.size w w') : Flts w' l := fun x hx => (h x hx).below hb (h x hx).lt
theorem Flts.cons {w : World} {l : List (Nat × Int)} {b : Nat} {c : Int} (h : Flts w l) (hf : Flt w b c 0) : Flts w ((b, c) :: l) := fun x hx => by
  rcases List.mem_cons.1 hx with rfl | hx
  · exact hf
  · exact h x hx
theorem Try.exec4 (a : Act) (d : Option Tmp) (ty : TypeId) (ps : String) (af : Array Edge) (w : World) : (execOp a.eval { dst := d, op := .build 29 #[(4, .const (.int .i64 4))], type := ty, pos := ps, after := af, guard := none }).run Try.prog w = .ok (.value (.agg ({ pkt0 with pl := 4 } : Pkt).vals.toArray)) w := by
  unfold execOp
  simp only [Sem.run_bind, List.map_toArray, List.map_cons, List.map_nil]
  show Result.andThen ((Instr.build 29 #[(4, .int .i64 4)]).run Try.prog w) _ = _
  rw [show (Instr.build 29 #[(4, .int .i64 4)]).run Try.prog w = .ok (.agg ({ pkt0 with pl := 4 } : Pkt).vals.toArray) w by kernel_rfl]
  rfl
theorem Try.exec10 (a : Act) (t : Nat) (R : ByteArray) (d : Option Tmp) (ty : TypeId) (ps : String) (af : Array Edge) (w : World) (h1 : a.eval (.tmp t) = .string R) : (execOp a.eval { dst := d, op := .build 29 #[(10, .tmp t)], type := ty, pos := ps, after := af, guard := none }).run Try.prog w = .ok (.value (.agg ({ pkt0 with data := R } : Pkt).vals.toArray)) w := by
  unfold execOp
  simp only [Sem.run_bind, List.map_toArray, List.map_cons, List.map_nil, h1]
  show Result.andThen ((Instr.build 29 #[(10, .string R)]).run Try.prog w) _ = _
  rw [show (Instr.build 29 #[(10, .string R)]).run Try.prog w = .ok (.agg ({ pkt0 with data := R } : Pkt).vals.toArray) w by kernel_rfl]
  rfl
/-- Some text and no fault. -/
def SomeOk (w : World) (e : Ending) (w' : World) : Prop := ∃ s, e = .returned (.tuple #[.string s, .nilIface]) ∧ Below w.heap.size w w'
/-- Some letters x. -/
def xs (n : Nat) : ByteArray := ⟨(Lib.repeatL [120] n).toArray⟩
theorem xs_size (n : Nat) : (xs n).size = n := by
  rw [← ba_size]
  show (Lib.repeatL [120] n).length = n
  rw [Lib.repeatL_length]
  simp
theorem repeat_any (n : Nat) (w : World) (hn : n ≤ 70000) : Calls Try.prog 16 #[.string ⟨#[120]⟩, .int .i64 (n : Int)] w fun e w' => e = .returned (.string (xs n)) ∧ Below w.heap.size w w' :=
  Try.strings_Repeat ⟨#[120]⟩ n w (by omega) (by show 1 * n ≤ _; omega)
theorem why_four : ({ pkt0 with pl := 4 } : Pkt).why = 13 := by decide +kernel
theorem why_data (R : ByteArray) : ({ pkt0 with data := R } : Pkt).why = if 65535 < 20 + R.size then 3 else 0 := by
  unfold Pkt.why
  rw [if_neg (by show ¬ pkt0.bnd = false; decide +kernel), if_neg (by show ¬ (40 < 0 ∨ 0 % 4 ≠ 0); omega), if_neg (by intro h; exact absurd h.1 (by show ¬ false = true; decide))]
  unfold Pkt.long
  show (if (65535 : Int) < 20 + ((0 : Nat) : Int) + 0 + (R.size : Int) then (3 : Int) else 0) = _
  by_cases h : 65535 < 20 + R.size
  · rw [if_pos h, if_pos (by omega)]
  · rw [if_neg h, if_neg (by omega)]
theorem cut19 : pcode (exB.extract 0 19) = 7 := by decide +kernel
theorem cut21 : pcode (exB.extract 0 21) = 7 := by decide +kernel
theorem rt1 : rtE [1, 131, 3, 4] false = some false := by decide +kernel
theorem rt2 : rtE [131, 7, 4, 0, 0, 0, 0] false = some true := by decide +kernel
theorem rt3 : rtE [7, 1] false = none := by decide +kernel
theorem routed_none (s : ByteArray) (h : rtE s.data.toList false = none) (w : World) : Calls Try.prog 17 #[.string s] w (Bad (.bool false) 8 w) := by
  have := routed_any s w
  rw [h] at this
  exact this
set_option maxRecDepth 100000 in
set_option maxHeartbeats 2000000 in
theorem ip4Known_any (w : World) :
    Calls Try.prog 3 #[] w fun e w' => e = .returned (.bool true) ∧ Below w.heap.size w w' := by
  obtain ⟨VE, hVE⟩ : ∃ V, V = (exP).vals := ⟨_, rfl⟩
  have HIVE : Hid ((Try.prog.info? 29).map (·.size) = some VE.length) := Lib.hid (by rw [hVE]; exact Try.infoIp (exP))
  have HOVE : Hid (VE.toArray.all (·.oneCell') = true) := Lib.hid (by rw [hVE]; exact vals_one (exP))
  have HPVE : Hid (∀ q : Pkt, puts q.vals.toArray 0 VE = VE.toArray) := Lib.hid (fun q => by rw [hVE]; exact puts_all q (exP))
  have HSVE : Hid (VE.toArray.size = 17) := Lib.hid (by rw [hVE]; rfl)
  obtain ⟨VZ, hVZ⟩ : ∃ V, V = (pkt0).vals := ⟨_, rfl⟩
  have HIVZ : Hid ((Try.prog.info? 29).map (·.size) = some VZ.length) := Lib.hid (by rw [hVZ]; exact Try.infoIp (pkt0))
  have HOVZ : Hid (VZ.toArray.all (·.oneCell') = true) := Lib.hid (by rw [hVZ]; exact vals_one (pkt0))
  have HPVZ : Hid (∀ q : Pkt, puts q.vals.toArray 0 VZ = VZ.toArray) := Lib.hid (fun q => by rw [hVZ]; exact puts_all q (pkt0))
  have HSVZ : Hid (VZ.toArray.size = 17) := Lib.hid (by rw [hVZ]; rfl)
  obtain ⟨V4, hV4⟩ : ∃ V, V = ({ pkt0 with pl := 4 } : Pkt).vals := ⟨_, rfl⟩
  have HIV4 : Hid ((Try.prog.info? 29).map (·.size) = some V4.length) := Lib.hid (by rw [hV4]; exact Try.infoIp ({ pkt0 with pl := 4 }))
  have HOV4 : Hid (V4.toArray.all (·.oneCell') = true) := Lib.hid (by rw [hV4]; exact vals_one ({ pkt0 with pl := 4 }))
  have HPV4 : Hid (∀ q : Pkt, puts q.vals.toArray 0 V4 = V4.toArray) := Lib.hid (fun q => by rw [hV4]; exact puts_all q ({ pkt0 with pl := 4 }))
  have HSV4 : Hid (V4.toArray.size = 17) := Lib.hid (by rw [hV4]; rfl)
  obtain ⟨VL, hVL⟩ : ∃ V, V = ({ pkt0 with data := xs 65516 } : Pkt).vals := ⟨_, rfl⟩
  have HIVL : Hid ((Try.prog.info? 29).map (·.size) = some VL.length) := Lib.hid (by rw [hVL]; exact Try.infoIp ({ pkt0 with data := xs 65516 }))
  have HOVL : Hid (VL.toArray.all (·.oneCell') = true) := Lib.hid (by rw [hVL]; exact vals_one ({ pkt0 with data := xs 65516 }))
  have HPVL : Hid (∀ q : Pkt, puts q.vals.toArray 0 VL = VL.toArray) := Lib.hid (fun q => by rw [hVL]; exact puts_all q ({ pkt0 with data := xs 65516 }))
  have HSVL : Hid (VL.toArray.size = 17) := Lib.hid (by rw [hVL]; rfl)
  obtain ⟨VM, hVM⟩ : ∃ V, V = ({ pkt0 with data := xs 65515 } : Pkt).vals := ⟨_, rfl⟩
  have HIVM : Hid ((Try.prog.info? 29).map (·.size) = some VM.length) := Lib.hid (by rw [hVM]; exact Try.infoIp ({ pkt0 with data := xs 65515 }))
  have HOVM : Hid (VM.toArray.all (·.oneCell') = true) := Lib.hid (by rw [hVM]; exact vals_one ({ pkt0 with data := xs 65515 }))
  have HPVM : Hid (∀ q : Pkt, puts q.vals.toArray 0 VM = VM.toArray) := Lib.hid (fun q => by rw [hVM]; exact puts_all q ({ pkt0 with data := xs 65515 }))
  have HSVM : Hid (VM.toArray.size = 17) := Lib.hid (by rw [hVM]; rfl)
  have HEx : Hid (∀ W, Calls Try.prog 14 #[] W fun e w' => e = .returned (.agg VE.toArray) ∧ Below W.heap.size W w') := Lib.hid (fun W => by rw [hVE]; exact example_any W)
  have HBy : Hid (∀ W, Calls Try.prog 13 #[.agg VE.toArray] W fun e w' => e = .returned (.tuple #[.string exB, .nilIface]) ∧ Below W.heap.size W w') := Lib.hid (fun W => by rw [hVE, ← exP_bytes]; exact bytes_ok exP W exP_why)
  have HP1 : Hid (∀ W, Calls Try.prog 15 #[.string (exB.extract 0 19)] W (Bad (.agg VZ.toArray) 7 W)) := Lib.hid (fun W => by rw [hVZ, ← cut19]; exact parse_bad _ W (by decide +kernel) (by rw [cut19]; decide))
  have HP2 : Hid (∀ W, Calls Try.prog 15 #[.string (exB.extract 0 21)] W (Bad (.agg VZ.toArray) 7 W)) := Lib.hid (fun W => by rw [hVZ, ← cut21]; exact parse_bad _ W (by decide +kernel) (by rw [cut21]; decide))
  have HB4 : Hid (∀ W, Calls Try.prog 13 #[.agg V4.toArray] W (Bad (.string ⟨#[]⟩) 13 W)) := Lib.hid (fun W => by
    have h := bytes_bad ({ pkt0 with pl := 4 } : Pkt) W (by show 0 ≤ 70000; omega) (by rw [why_four]; decide)
    rw [why_four] at h
    rw [hV4]
    exact h)
  have HBL : Hid (∀ W, Calls Try.prog 13 #[.agg VL.toArray] W (Bad (.string ⟨#[]⟩) 3 W)) := Lib.hid (fun W => by
    have hy : ({ pkt0 with data := xs 65516 } : Pkt).why = 3 := by rw [why_data, xs_size]; rfl
    have h := bytes_bad ({ pkt0 with data := xs 65516 } : Pkt) W (by show (xs 65516).size ≤ 70000; rw [xs_size]; omega) (by rw [hy]; decide)
    rw [hy] at h
    rw [hVL]
    exact h)
  have HBM : Hid (∀ W, Calls Try.prog 13 #[.agg VM.toArray] W (SomeOk W)) := Lib.hid (fun W => by
    have hy : ({ pkt0 with data := xs 65515 } : Pkt).why = 0 := by rw [why_data, xs_size]; rfl
    rw [hVM]
    exact (bytes_ok ({ pkt0 with data := xs 65515 } : Pkt) W hy).mono fun _ _ ⟨h1, h2⟩ => ⟨_, h1, h2⟩)
  have HX4 : Hid (∀ (a : Act) (d : Option Tmp) (ty : TypeId) (ps : String) (af : Array Edge) (W : World), (execOp a.eval { dst := d, op := .build 29 #[(4, .const (.int .i64 4))], type := ty, pos := ps, after := af, guard := none }).run Try.prog W = .ok (.value (.agg V4.toArray)) W) := Lib.hid (fun a d ty ps af W => by rw [hV4]; exact Try.exec4 a d ty ps af W)
  have HXL : Hid (∀ (a : Act) (t : Nat) (d : Option Tmp) (ty : TypeId) (ps : String) (af : Array Edge) (W : World), a.eval (.tmp t) = .string (xs 65516) → (execOp a.eval { dst := d, op := .build 29 #[(10, .tmp t)], type := ty, pos := ps, after := af, guard := none }).run Try.prog W = .ok (.value (.agg VL.toArray)) W) := Lib.hid (fun a t d ty ps af W h1 => by rw [hVL]; exact Try.exec10 a t _ d ty ps af W h1)
  have HXM : Hid (∀ (a : Act) (t : Nat) (d : Option Tmp) (ty : TypeId) (ps : String) (af : Array Edge) (W : World), a.eval (.tmp t) = .string (xs 65515) → (execOp a.eval { dst := d, op := .build 29 #[(10, .tmp t)], type := ty, pos := ps, after := af, guard := none }).run Try.prog W = .ok (.value (.agg VM.toArray)) W) := Lib.hid (fun a t d ty ps af W h1 => by rw [hVM]; exact Try.exec10 a t _ d ty ps af W h1)
  have HR1 : Hid (∀ W, Calls Try.prog 16 #[.string ⟨#[120]⟩, .int .i64 65516] W fun e w' => e = .returned (.string (xs 65516)) ∧ Below W.heap.size W w') := Lib.hid (fun W => repeat_any 65516 W (by omega))
  have HR2 : Hid (∀ W, Calls Try.prog 16 #[.string ⟨#[120]⟩, .int .i64 65515] W fun e w' => e = .returned (.string (xs 65515)) ∧ Below W.heap.size W w') := Lib.hid (fun W => repeat_any 65515 W (by omega))
  have HZE : Hid (exB.size = 22) := Lib.hid rfl
  clear hVE hVZ hV4 hVL hVM
  generalize exB = X at *
  generalize xs 65516 = XL at *
  generalize xs 65515 = XM at *
  obtain ⟨w0, hw0⟩ : ∃ w0, w0 = w := ⟨_, rfl⟩
  rw [← hw0]
  have HB0 : Hid (Below w0.heap.size w0 w0) := Lib.hid (Below.refl _ _)
  have HF0 : Hid (Flts w0 []) := Lib.hid (fun x hx => by cases hx)
  clear hw0
  go_enter Try.func3, Try.ntmps3
  go_wp2_with fail
  refine (HEx.out _).mono ?_
  rintro e w1 ⟨rfl, bb⟩
  have HB1 := Lib.hid (HB0.out.trans (bb.mono HB0.out.size))
  have HF1 := Lib.hid (HF0.out.below bb)
  clear bb HB0 HF0
  go_wp2_with fail
  refine (HBy.out _).mono ?_
  rintro e w2 ⟨rfl, bb⟩
  have HB2 := Lib.hid (HB1.out.trans (bb.mono HB1.out.size))
  have HF2 := Lib.hid (HF1.out.below bb)
  clear bb HB1 HF1
  have k22 : ((X.size : Int) != 22) = false := by rw [HZE.out]; rfl
  have y19 : (19 : Int) ≤ (X.size : Int) := by rw [HZE.out]; decide
  have y21 : (21 : Int) ≤ (X.size : Int) := by rw [HZE.out]; decide
  go_wp2_with fail
  refine (HP1.out _).mono ?_
  rintro e w3 ⟨f1, rfl, hfl, hfb, bb⟩
  have HB3 := Lib.hid (HB2.out.trans (bb.mono HB2.out.size))
  have HF3 := Lib.hid ((HF2.out.below bb).cons hfl)
  clear bb hfl hfb HB2 HF2
  have ht : (w3.alloc (.cells #[.int .i64 0, .int .i64 0, .int .i64 0, .int .i64 0, .int .i64 0, .bool false, .bool false, .int .u8 0, .int .u8 0, .int .u8 0, .int .u8 0, .int .u8 0, .int .u8 0, .int .u8 0, .int .u8 0, .string ⟨#[]⟩, .string ⟨#[]⟩] 29)).there w3.heap.size 0 VZ.toArray.size := by rw [HSVZ.out]; exact (bk_new w3 29 #[.int .i64 0, .int .i64 0, .int .i64 0, .int .i64 0, .int .i64 0, .bool false, .bool false, .int .u8 0, .int .u8 0, .int .u8 0, .int .u8 0, .int .u8 0, .int .u8 0, .int .u8 0, .int .u8 0, .string ⟨#[]⟩, .string ⟨#[]⟩]).there 17 (Nat.le_refl _)
  go_upto_region 5 with (refine wpList_store_mid rfl 29 _ _ rfl w3.heap.size 0 VZ.toArray rfl rfl ht HIVZ.out HOVZ.out ?_)
  have bb := below_sets (b := w3.heap.size) VZ (Nat.le_refl _) 0 _ ((Below.refl w3.heap.size w3).alloc (Nat.le_refl _) (.cells #[.int .i64 0, .int .i64 0, .int .i64 0, .int .i64 0, .int .i64 0, .bool false, .bool false, .int .u8 0, .int .u8 0, .int .u8 0, .int .u8 0, .int .u8 0, .int .u8 0, .int .u8 0, .int .u8 0, .string ⟨#[]⟩, .string ⟨#[]⟩] 29))
  have HB4 := Lib.hid (HB3.out.trans (bb.mono HB3.out.size))
  have HF4 := Lib.hid (HF3.out.below bb)
  clear ht bb HB3 HF3
  generalize (w3.alloc (.cells #[.int .i64 0, .int .i64 0, .int .i64 0, .int .i64 0, .int .i64 0, .bool false, .bool false, .int .u8 0, .int .u8 0, .int .u8 0, .int .u8 0, .int .u8 0, .int .u8 0, .int .u8 0, .int .u8 0, .string ⟨#[]⟩, .string ⟨#[]⟩] 29)).setCells w3.heap.size 0 VZ = w4 at *
  go_wp2_with fail
  refine (HP2.out _).mono ?_
  rintro e w5 ⟨f2, rfl, hfl, hfb, bb⟩
  have HB5 := Lib.hid (HB4.out.trans (bb.mono HB4.out.size))
  have HF5 := Lib.hid ((HF4.out.below bb).cons hfl)
  clear bb hfl hfb HB4 HF4
  have ht : (w5.alloc (.cells #[.int .i64 0, .int .i64 0, .int .i64 0, .int .i64 0, .int .i64 0, .bool false, .bool false, .int .u8 0, .int .u8 0, .int .u8 0, .int .u8 0, .int .u8 0, .int .u8 0, .int .u8 0, .int .u8 0, .string ⟨#[]⟩, .string ⟨#[]⟩] 29)).there w5.heap.size 0 VZ.toArray.size := by rw [HSVZ.out]; exact (bk_new w5 29 #[.int .i64 0, .int .i64 0, .int .i64 0, .int .i64 0, .int .i64 0, .bool false, .bool false, .int .u8 0, .int .u8 0, .int .u8 0, .int .u8 0, .int .u8 0, .int .u8 0, .int .u8 0, .int .u8 0, .string ⟨#[]⟩, .string ⟨#[]⟩]).there 17 (Nat.le_refl _)
  go_upto_region 6 with (refine wpList_store_mid rfl 29 _ _ rfl w5.heap.size 0 VZ.toArray rfl rfl ht HIVZ.out HOVZ.out ?_)
  have bb := below_sets (b := w5.heap.size) VZ (Nat.le_refl _) 0 _ ((Below.refl w5.heap.size w5).alloc (Nat.le_refl _) (.cells #[.int .i64 0, .int .i64 0, .int .i64 0, .int .i64 0, .int .i64 0, .bool false, .bool false, .int .u8 0, .int .u8 0, .int .u8 0, .int .u8 0, .int .u8 0, .int .u8 0, .int .u8 0, .int .u8 0, .string ⟨#[]⟩, .string ⟨#[]⟩] 29))
  have HB6 := Lib.hid (HB5.out.trans (bb.mono HB5.out.size))
  have HF6 := Lib.hid (HF5.out.below bb)
  clear ht bb HB5 HF5
  generalize (w5.alloc (.cells #[.int .i64 0, .int .i64 0, .int .i64 0, .int .i64 0, .int .i64 0, .bool false, .bool false, .int .u8 0, .int .u8 0, .int .u8 0, .int .u8 0, .int .u8 0, .int .u8 0, .int .u8 0, .int .u8 0, .string ⟨#[]⟩, .string ⟨#[]⟩] 29)).setCells w5.heap.size 0 VZ = w6 at *
  clear k22 y19 y21
  go_wp2_with (refine Great.wpList_readTo (o := ⟨_, .build 29 #[(4, .const (.int .i64 4))], _, _, _, none⟩) rfl _ rfl (.agg V4.toArray) (HX4.out _ _ _ _ _ _) ?_)
  refine (HB4.out _).mono ?_
  rintro e w7 ⟨f3, rfl, hfl, hfb, bb⟩
  have HB7 := Lib.hid (HB6.out.trans (bb.mono HB6.out.size))
  have HF7 := Lib.hid ((HF6.out.below bb).cons hfl)
  clear bb hfl hfb HB6 HF6
  go_wp2_with fail
  refine (HR1.out _).mono ?_
  rintro e w8 ⟨rfl, bb⟩
  have HB8 := Lib.hid (HB7.out.trans (bb.mono HB7.out.size))
  have HF8 := Lib.hid (HF7.out.below bb)
  clear bb HB7 HF7
  go_wp2_with (refine Great.wpList_readTo (o := ⟨_, .build 29 #[(10, .tmp 45)], _, _, _, none⟩) rfl _ rfl (.agg VL.toArray) (HXL.out _ _ _ _ _ _ _ rfl) ?_)
  refine (HBL.out _).mono ?_
  rintro e w9 ⟨f4, rfl, hfl, hfb, bb⟩
  have HB9 := Lib.hid (HB8.out.trans (bb.mono HB8.out.size))
  have HF9 := Lib.hid ((HF8.out.below bb).cons hfl)
  clear bb hfl hfb HB8 HF8
  go_wp2_with fail
  refine (HR2.out _).mono ?_
  rintro e w10 ⟨rfl, bb⟩
  have HB10 := Lib.hid (HB9.out.trans (bb.mono HB9.out.size))
  have HF10 := Lib.hid (HF9.out.below bb)
  clear bb HB9 HF9
  go_wp2_with (refine Great.wpList_readTo (o := ⟨_, .build 29 #[(10, .tmp 51)], _, _, _, none⟩) rfl _ rfl (.agg VM.toArray) (HXM.out _ _ _ _ _ _ _ rfl) ?_)
  refine (HBM.out _).mono ?_
  rintro e w11 ⟨sm, rfl, bb⟩
  have HB11 := Lib.hid (HB10.out.trans (bb.mono HB10.out.size))
  have HF11 := Lib.hid (HF10.out.below bb)
  clear bb HB10 HF10
  go_wp2_with fail
  refine (routed_some _ _ rt1 _).mono ?_
  rintro e w12 ⟨rfl, bb⟩
  have HB12 := Lib.hid (HB11.out.trans (bb.mono HB11.out.size))
  have HF12 := Lib.hid (HF11.out.below bb)
  clear bb HB11 HF11
  go_wp2_with fail
  refine (routed_some _ _ rt2 _).mono ?_
  rintro e w13 ⟨rfl, bb⟩
  have HB13 := Lib.hid (HB12.out.trans (bb.mono HB12.out.size))
  have HF13 := Lib.hid (HF12.out.below bb)
  clear bb HB12 HF12
  go_wp2_with fail
  refine (routed_none _ rt3 _).mono ?_
  rintro e w14 ⟨f5, rfl, hfl, hfb, bb⟩
  have HB14 := Lib.hid (HB13.out.trans (bb.mono HB13.out.size))
  have HF14 := Lib.hid ((HF13.out.below bb).cons hfl)
  clear bb hfl hfb HB13 HF13
  go_wp2_with fail
  refine (awake_true _).mono ?_
  rintro e w15 ⟨rfl, bb⟩
  have HB15 := Lib.hid (HB14.out.trans (bb.mono HB14.out.size))
  have HF15 := Lib.hid (HF14.out.below bb)
  clear bb HB14 HF14
  go_wp2_with fail
  refine (same_fault (HF15.out (f1, 7) (by simp)) rfl).mono ?_
  rintro e w16 ⟨rfl, rfl⟩
  go_wp2_with fail
  refine (same_fault (HF15.out (f2, 7) (by simp)) rfl).mono ?_
  rintro e w16 ⟨rfl, rfl⟩
  go_wp2_with fail
  refine (same_fault (HF15.out (f3, 13) (by simp)) rfl).mono ?_
  rintro e w16 ⟨rfl, rfl⟩
  go_wp2_with fail
  refine (same_fault (HF15.out (f4, 3) (by simp)) rfl).mono ?_
  rintro e w16 ⟨rfl, rfl⟩
  go_wp2_with fail
  refine (same_fault (HF15.out (f5, 8) (by simp)) rfl).mono ?_
  rintro e w16 ⟨rfl, rfl⟩
  go_wp2_with fail
  go_ret
  exact ⟨rfl, HB15.out⟩
end Go.Proofs.Ytjfkfeobmcnonaa
