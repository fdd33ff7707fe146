/-
  Proved here: what the document's Why answers.
  Conditions: texts of at most 70000 bytes.
-/
import Derived.Test.YtjfkfeobmcnonaaRefusal
namespace Go.Proofs.Ytjfkfeobmcnonaa
open Go.RowKit

set_option maxRecDepth 100000 in
set_option maxHeartbeats 400000 in
theorem why_0 (p : Pkt) (w : World) (h0 : inB p.tos 255 = false) :
    Calls Try.prog 38 #[.agg p.vals.toArray] w fun e w' => e = .returned (.int .i64 13) ∧ Below w.heap.size w w' := by
  show Calls _ _ #[.agg #[.int .i64 p.tos, .int .i64 p.id, .int .i64 p.ttl, .int .i64 p.proto, .int .i64 p.pl, .bool p.df, .bool p.more, .int .u8 p.a0, .int .u8 p.a1, .int .u8 p.a2, .int .u8 p.a3, .int .u8 p.b0, .int .u8 p.b1, .int .u8 p.b2, .int .u8 p.b3, .string p.opts, .string p.data]] _ _
  have H0 := Lib.hid h0
  clear h0
  go_enter Try.func38, Try.ntmps38
  go_wp2_with fail
  refine (rwithin_at _ _ _ H0.out _).mono ?_
  rintro e w0 ⟨rfl, rfl⟩
  go_wp2_with fail
  go_ret
  exact ⟨rfl, (Below.refl _ _).alloc (Nat.le_refl _) _⟩
set_option maxRecDepth 100000 in
set_option maxHeartbeats 400000 in
theorem why_1 (p : Pkt) (w : World) (h0 : inB p.tos 255 = true) (h1 : inB p.ttl 255 = false) :
    Calls Try.prog 38 #[.agg p.vals.toArray] w fun e w' => e = .returned (.int .i64 13) ∧ Below w.heap.size w w' := by
  show Calls _ _ #[.agg #[.int .i64 p.tos, .int .i64 p.id, .int .i64 p.ttl, .int .i64 p.proto, .int .i64 p.pl, .bool p.df, .bool p.more, .int .u8 p.a0, .int .u8 p.a1, .int .u8 p.a2, .int .u8 p.a3, .int .u8 p.b0, .int .u8 p.b1, .int .u8 p.b2, .int .u8 p.b3, .string p.opts, .string p.data]] _ _
  have H0 := Lib.hid h0
  clear h0
  have H1 := Lib.hid h1
  clear h1
  go_enter Try.func38, Try.ntmps38
  go_wp2_with fail
  refine (rwithin_at _ _ _ H0.out _).mono ?_
  rintro e w0 ⟨rfl, rfl⟩
  go_wp2_with fail
  refine (rwithin_at _ _ _ H1.out _).mono ?_
  rintro e w1 ⟨rfl, rfl⟩
  go_wp2_with fail
  go_ret
  exact ⟨rfl, (Below.refl _ _).alloc (Nat.le_refl _) _⟩
set_option maxRecDepth 100000 in
set_option maxHeartbeats 400000 in
theorem why_2 (p : Pkt) (w : World) (h0 : inB p.tos 255 = true) (h1 : inB p.ttl 255 = true) (h2 : inB p.proto 255 = false) :
    Calls Try.prog 38 #[.agg p.vals.toArray] w fun e w' => e = .returned (.int .i64 13) ∧ Below w.heap.size w w' := by
  show Calls _ _ #[.agg #[.int .i64 p.tos, .int .i64 p.id, .int .i64 p.ttl, .int .i64 p.proto, .int .i64 p.pl, .bool p.df, .bool p.more, .int .u8 p.a0, .int .u8 p.a1, .int .u8 p.a2, .int .u8 p.a3, .int .u8 p.b0, .int .u8 p.b1, .int .u8 p.b2, .int .u8 p.b3, .string p.opts, .string p.data]] _ _
  have H0 := Lib.hid h0
  clear h0
  have H1 := Lib.hid h1
  clear h1
  have H2 := Lib.hid h2
  clear h2
  go_enter Try.func38, Try.ntmps38
  go_wp2_with fail
  refine (rwithin_at _ _ _ H0.out _).mono ?_
  rintro e w0 ⟨rfl, rfl⟩
  go_wp2_with fail
  refine (rwithin_at _ _ _ H1.out _).mono ?_
  rintro e w1 ⟨rfl, rfl⟩
  go_wp2_with fail
  refine (rwithin_at _ _ _ H2.out _).mono ?_
  rintro e w2 ⟨rfl, rfl⟩
  go_wp2_with fail
  go_ret
  exact ⟨rfl, (Below.refl _ _).alloc (Nat.le_refl _) _⟩
set_option maxRecDepth 100000 in
set_option maxHeartbeats 400000 in
theorem why_3 (p : Pkt) (w : World) (h0 : inB p.tos 255 = true) (h1 : inB p.ttl 255 = true) (h2 : inB p.proto 255 = true) (h3 : inB p.id 65535 = false) :
    Calls Try.prog 38 #[.agg p.vals.toArray] w fun e w' => e = .returned (.int .i64 13) ∧ Below w.heap.size w w' := by
  show Calls _ _ #[.agg #[.int .i64 p.tos, .int .i64 p.id, .int .i64 p.ttl, .int .i64 p.proto, .int .i64 p.pl, .bool p.df, .bool p.more, .int .u8 p.a0, .int .u8 p.a1, .int .u8 p.a2, .int .u8 p.a3, .int .u8 p.b0, .int .u8 p.b1, .int .u8 p.b2, .int .u8 p.b3, .string p.opts, .string p.data]] _ _
  have H0 := Lib.hid h0
  clear h0
  have H1 := Lib.hid h1
  clear h1
  have H2 := Lib.hid h2
  clear h2
  have H3 := Lib.hid h3
  clear h3
  go_enter Try.func38, Try.ntmps38
  go_wp2_with fail
  refine (rwithin_at _ _ _ H0.out _).mono ?_
  rintro e w0 ⟨rfl, rfl⟩
  go_wp2_with fail
  refine (rwithin_at _ _ _ H1.out _).mono ?_
  rintro e w1 ⟨rfl, rfl⟩
  go_wp2_with fail
  refine (rwithin_at _ _ _ H2.out _).mono ?_
  rintro e w2 ⟨rfl, rfl⟩
  go_wp2_with fail
  refine (rwithin_at _ _ _ H3.out _).mono ?_
  rintro e w3 ⟨rfl, rfl⟩
  go_wp2_with fail
  go_ret
  exact ⟨rfl, (Below.refl _ _).alloc (Nat.le_refl _) _⟩
set_option maxRecDepth 100000 in
set_option maxHeartbeats 400000 in
theorem why_4 (p : Pkt) (w : World) (h0 : inB p.tos 255 = true) (h1 : inB p.ttl 255 = true) (h2 : inB p.proto 255 = true) (h3 : inB p.id 65535 = true) (h4 : inB p.pl 65528 = false) :
    Calls Try.prog 38 #[.agg p.vals.toArray] w fun e w' => e = .returned (.int .i64 13) ∧ Below w.heap.size w w' := by
  show Calls _ _ #[.agg #[.int .i64 p.tos, .int .i64 p.id, .int .i64 p.ttl, .int .i64 p.proto, .int .i64 p.pl, .bool p.df, .bool p.more, .int .u8 p.a0, .int .u8 p.a1, .int .u8 p.a2, .int .u8 p.a3, .int .u8 p.b0, .int .u8 p.b1, .int .u8 p.b2, .int .u8 p.b3, .string p.opts, .string p.data]] _ _
  have H0 := Lib.hid h0
  clear h0
  have H1 := Lib.hid h1
  clear h1
  have H2 := Lib.hid h2
  clear h2
  have H3 := Lib.hid h3
  clear h3
  have H4 := Lib.hid h4
  clear h4
  go_enter Try.func38, Try.ntmps38
  go_wp2_with fail
  refine (rwithin_at _ _ _ H0.out _).mono ?_
  rintro e w0 ⟨rfl, rfl⟩
  go_wp2_with fail
  refine (rwithin_at _ _ _ H1.out _).mono ?_
  rintro e w1 ⟨rfl, rfl⟩
  go_wp2_with fail
  refine (rwithin_at _ _ _ H2.out _).mono ?_
  rintro e w2 ⟨rfl, rfl⟩
  go_wp2_with fail
  refine (rwithin_at _ _ _ H3.out _).mono ?_
  rintro e w3 ⟨rfl, rfl⟩
  go_wp2_with fail
  refine (rwithin_at _ _ _ H4.out _).mono ?_
  rintro e w4 ⟨rfl, rfl⟩
  go_wp2_with fail
  go_ret
  exact ⟨rfl, (Below.refl _ _).alloc (Nat.le_refl _) _⟩
set_option maxRecDepth 100000 in
set_option maxHeartbeats 400000 in
theorem why_5 (p : Pkt) (w : World) (h0 : inB p.tos 255 = true) (h1 : inB p.ttl 255 = true) (h2 : inB p.proto 255 = true) (h3 : inB p.id 65535 = true) (h4 : inB p.pl 65528 = true) (h5 : (p.pl % 8 != 0) = true) :
    Calls Try.prog 38 #[.agg p.vals.toArray] w fun e w' => e = .returned (.int .i64 13) ∧ Below w.heap.size w w' := by
  show Calls _ _ #[.agg #[.int .i64 p.tos, .int .i64 p.id, .int .i64 p.ttl, .int .i64 p.proto, .int .i64 p.pl, .bool p.df, .bool p.more, .int .u8 p.a0, .int .u8 p.a1, .int .u8 p.a2, .int .u8 p.a3, .int .u8 p.b0, .int .u8 p.b1, .int .u8 p.b2, .int .u8 p.b3, .string p.opts, .string p.data]] _ _
  have hp := (inB_iff _ _).1 h4
  have hp0 := hp.1
  have hp1 := hp.2
  clear hp
  have H0 := Lib.hid h0
  clear h0
  have H1 := Lib.hid h1
  clear h1
  have H2 := Lib.hid h2
  clear h2
  have H3 := Lib.hid h3
  clear h3
  have H4 := Lib.hid h4
  clear h4
  go_enter Try.func38, Try.ntmps38
  go_wp2_with fail
  refine (rwithin_at _ _ _ H0.out _).mono ?_
  rintro e w0 ⟨rfl, rfl⟩
  go_wp2_with fail
  refine (rwithin_at _ _ _ H1.out _).mono ?_
  rintro e w1 ⟨rfl, rfl⟩
  go_wp2_with fail
  refine (rwithin_at _ _ _ H2.out _).mono ?_
  rintro e w2 ⟨rfl, rfl⟩
  go_wp2_with fail
  refine (rwithin_at _ _ _ H3.out _).mono ?_
  rintro e w3 ⟨rfl, rfl⟩
  go_wp2_with fail
  refine (rwithin_at _ _ _ H4.out _).mono ?_
  rintro e w4 ⟨rfl, rfl⟩
  go_wp2_with fail
  go_ret
  exact ⟨rfl, (Below.refl _ _).alloc (Nat.le_refl _) _⟩
set_option maxRecDepth 100000 in
set_option maxHeartbeats 400000 in
theorem why_many (p : Pkt) (w : World) (h0 : inB p.tos 255 = true) (h1 : inB p.ttl 255 = true) (h2 : inB p.proto 255 = true) (h3 : inB p.id 65535 = true) (h4 : inB p.pl 65528 = true) (h5 : (p.pl % 8 != 0) = false) (h : 40 < p.opts.size) (_hz : p.opts.size ≤ 70000) :
    Calls Try.prog 38 #[.agg p.vals.toArray] w fun e w' => e = .returned (.int .i64 8) ∧ Below w.heap.size w w' := by
  show Calls _ _ #[.agg #[.int .i64 p.tos, .int .i64 p.id, .int .i64 p.ttl, .int .i64 p.proto, .int .i64 p.pl, .bool p.df, .bool p.more, .int .u8 p.a0, .int .u8 p.a1, .int .u8 p.a2, .int .u8 p.a3, .int .u8 p.b0, .int .u8 p.b1, .int .u8 p.b2, .int .u8 p.b3, .string p.opts, .string p.data]] _ _
  have hp := (inB_iff _ _).1 h4
  have hp0 := hp.1
  have hp1 := hp.2
  clear hp
  have H0 := Lib.hid h0
  clear h0
  have H1 := Lib.hid h1
  clear h1
  have H2 := Lib.hid h2
  clear h2
  have H3 := Lib.hid h3
  clear h3
  have H4 := Lib.hid h4
  clear h4
  go_enter Try.func38, Try.ntmps38
  go_wp2_with fail
  refine (rwithin_at _ _ _ H0.out _).mono ?_
  rintro e w0 ⟨rfl, rfl⟩
  go_wp2_with fail
  refine (rwithin_at _ _ _ H1.out _).mono ?_
  rintro e w1 ⟨rfl, rfl⟩
  go_wp2_with fail
  refine (rwithin_at _ _ _ H2.out _).mono ?_
  rintro e w2 ⟨rfl, rfl⟩
  go_wp2_with fail
  refine (rwithin_at _ _ _ H3.out _).mono ?_
  rintro e w3 ⟨rfl, rfl⟩
  go_wp2_with fail
  refine (rwithin_at _ _ _ H4.out _).mono ?_
  rintro e w4 ⟨rfl, rfl⟩
  go_wp2_with fail
  go_ret
  exact ⟨rfl, (Below.refl _ _).alloc (Nat.le_refl _) _⟩
set_option maxRecDepth 100000 in
set_option maxHeartbeats 400000 in
theorem why_odd (p : Pkt) (w : World) (h0 : inB p.tos 255 = true) (h1 : inB p.ttl 255 = true) (h2 : inB p.proto 255 = true) (h3 : inB p.id 65535 = true) (h4 : inB p.pl 65528 = true) (h5 : (p.pl % 8 != 0) = false) (h : p.opts.size ≤ 40) (g4 : ((p.opts.size : Int) % 4 != 0) = true) :
    Calls Try.prog 38 #[.agg p.vals.toArray] w fun e w' => e = .returned (.int .i64 8) ∧ Below w.heap.size w w' := by
  show Calls _ _ #[.agg #[.int .i64 p.tos, .int .i64 p.id, .int .i64 p.ttl, .int .i64 p.proto, .int .i64 p.pl, .bool p.df, .bool p.more, .int .u8 p.a0, .int .u8 p.a1, .int .u8 p.a2, .int .u8 p.a3, .int .u8 p.b0, .int .u8 p.b1, .int .u8 p.b2, .int .u8 p.b3, .string p.opts, .string p.data]] _ _
  have hp := (inB_iff _ _).1 h4
  have hp0 := hp.1
  have hp1 := hp.2
  clear hp
  have H0 := Lib.hid h0
  clear h0
  have H1 := Lib.hid h1
  clear h1
  have H2 := Lib.hid h2
  clear h2
  have H3 := Lib.hid h3
  clear h3
  have H4 := Lib.hid h4
  clear h4
  go_enter Try.func38, Try.ntmps38
  go_wp2_with fail
  refine (rwithin_at _ _ _ H0.out _).mono ?_
  rintro e w0 ⟨rfl, rfl⟩
  go_wp2_with fail
  refine (rwithin_at _ _ _ H1.out _).mono ?_
  rintro e w1 ⟨rfl, rfl⟩
  go_wp2_with fail
  refine (rwithin_at _ _ _ H2.out _).mono ?_
  rintro e w2 ⟨rfl, rfl⟩
  go_wp2_with fail
  refine (rwithin_at _ _ _ H3.out _).mono ?_
  rintro e w3 ⟨rfl, rfl⟩
  go_wp2_with fail
  refine (rwithin_at _ _ _ H4.out _).mono ?_
  rintro e w4 ⟨rfl, rfl⟩
  go_wp2_with fail
  go_ret
  exact ⟨rfl, (Below.refl _ _).alloc (Nat.le_refl _) _⟩
set_option maxRecDepth 100000 in
set_option maxHeartbeats 400000 in
theorem why_none (p : Pkt) (w : World) (h0 : inB p.tos 255 = true) (h1 : inB p.ttl 255 = true) (h2 : inB p.proto 255 = true) (h3 : inB p.id 65535 = true) (h4 : inB p.pl 65528 = true) (h5 : (p.pl % 8 != 0) = false) (h : p.opts.size ≤ 40) (g4 : ((p.opts.size : Int) % 4 != 0) = false) (hm : p.more = true) (g0 : ((p.data.size : Int) == 0) = true) :
    Calls Try.prog 38 #[.agg p.vals.toArray] w fun e w' => e = .returned (.int .i64 8) ∧ Below w.heap.size w w' := by
  show Calls _ _ #[.agg #[.int .i64 p.tos, .int .i64 p.id, .int .i64 p.ttl, .int .i64 p.proto, .int .i64 p.pl, .bool p.df, .bool p.more, .int .u8 p.a0, .int .u8 p.a1, .int .u8 p.a2, .int .u8 p.a3, .int .u8 p.b0, .int .u8 p.b1, .int .u8 p.b2, .int .u8 p.b3, .string p.opts, .string p.data]] _ _
  have hp := (inB_iff _ _).1 h4
  have hp0 := hp.1
  have hp1 := hp.2
  clear hp
  have H0 := Lib.hid h0
  clear h0
  have H1 := Lib.hid h1
  clear h1
  have H2 := Lib.hid h2
  clear h2
  have H3 := Lib.hid h3
  clear h3
  have H4 := Lib.hid h4
  clear h4
  have HM := Lib.hid hm
  clear hm
  go_enter Try.func38, Try.ntmps38
  go_wp2_with fail
  refine (rwithin_at _ _ _ H0.out _).mono ?_
  rintro e w0 ⟨rfl, rfl⟩
  go_wp2_with fail
  refine (rwithin_at _ _ _ H1.out _).mono ?_
  rintro e w1 ⟨rfl, rfl⟩
  go_wp2_with fail
  refine (rwithin_at _ _ _ H2.out _).mono ?_
  rintro e w2 ⟨rfl, rfl⟩
  go_wp2_with fail
  refine (rwithin_at _ _ _ H3.out _).mono ?_
  rintro e w3 ⟨rfl, rfl⟩
  go_wp2_with fail
  refine (rwithin_at _ _ _ H4.out _).mono ?_
  rintro e w4 ⟨rfl, rfl⟩
  have hm := HM.out
  go_wp2_with fail
  go_ret
  exact ⟨rfl, (Below.refl _ _).alloc (Nat.le_refl _) _⟩
set_option maxRecDepth 100000 in
set_option maxHeartbeats 400000 in
theorem why_eight (p : Pkt) (w : World) (h0 : inB p.tos 255 = true) (h1 : inB p.ttl 255 = true) (h2 : inB p.proto 255 = true) (h3 : inB p.id 65535 = true) (h4 : inB p.pl 65528 = true) (h5 : (p.pl % 8 != 0) = false) (h : p.opts.size ≤ 40) (g4 : ((p.opts.size : Int) % 4 != 0) = false) (hm : p.more = true) (g0 : ((p.data.size : Int) == 0) = false) (g8 : ((p.data.size : Int) % 8 != 0) = true) :
    Calls Try.prog 38 #[.agg p.vals.toArray] w fun e w' => e = .returned (.int .i64 8) ∧ Below w.heap.size w w' := by
  show Calls _ _ #[.agg #[.int .i64 p.tos, .int .i64 p.id, .int .i64 p.ttl, .int .i64 p.proto, .int .i64 p.pl, .bool p.df, .bool p.more, .int .u8 p.a0, .int .u8 p.a1, .int .u8 p.a2, .int .u8 p.a3, .int .u8 p.b0, .int .u8 p.b1, .int .u8 p.b2, .int .u8 p.b3, .string p.opts, .string p.data]] _ _
  have hp := (inB_iff _ _).1 h4
  have hp0 := hp.1
  have hp1 := hp.2
  clear hp
  have H0 := Lib.hid h0
  clear h0
  have H1 := Lib.hid h1
  clear h1
  have H2 := Lib.hid h2
  clear h2
  have H3 := Lib.hid h3
  clear h3
  have H4 := Lib.hid h4
  clear h4
  have HM := Lib.hid hm
  clear hm
  go_enter Try.func38, Try.ntmps38
  go_wp2_with fail
  refine (rwithin_at _ _ _ H0.out _).mono ?_
  rintro e w0 ⟨rfl, rfl⟩
  go_wp2_with fail
  refine (rwithin_at _ _ _ H1.out _).mono ?_
  rintro e w1 ⟨rfl, rfl⟩
  go_wp2_with fail
  refine (rwithin_at _ _ _ H2.out _).mono ?_
  rintro e w2 ⟨rfl, rfl⟩
  go_wp2_with fail
  refine (rwithin_at _ _ _ H3.out _).mono ?_
  rintro e w3 ⟨rfl, rfl⟩
  go_wp2_with fail
  refine (rwithin_at _ _ _ H4.out _).mono ?_
  rintro e w4 ⟨rfl, rfl⟩
  have hm := HM.out
  go_wp2_with fail
  go_ret
  exact ⟨rfl, (Below.refl _ _).alloc (Nat.le_refl _) _⟩
set_option maxRecDepth 100000 in
set_option maxHeartbeats 400000 in
theorem why_end1 (p : Pkt) (w : World) (h0 : inB p.tos 255 = true) (h1 : inB p.ttl 255 = true) (h2 : inB p.proto 255 = true) (h3 : inB p.id 65535 = true) (h4 : inB p.pl 65528 = true) (h5 : (p.pl % 8 != 0) = false) (h : p.opts.size ≤ 40) (g4 : ((p.opts.size : Int) % 4 != 0) = false) (hm : p.more = false) (hd : p.data.size ≤ 70000) :
    Calls Try.prog 38 #[.agg p.vals.toArray] w fun e w' => e = .returned (.int .i64 p.long) ∧ Below w.heap.size w w' := by
  show Calls _ _ #[.agg #[.int .i64 p.tos, .int .i64 p.id, .int .i64 p.ttl, .int .i64 p.proto, .int .i64 p.pl, .bool p.df, .bool p.more, .int .u8 p.a0, .int .u8 p.a1, .int .u8 p.a2, .int .u8 p.a3, .int .u8 p.b0, .int .u8 p.b1, .int .u8 p.b2, .int .u8 p.b3, .string p.opts, .string p.data]] _ _
  have hp := (inB_iff _ _).1 h4
  have hp0 := hp.1
  have hp1 := hp.2
  clear hp
  have H0 := Lib.hid h0
  clear h0
  have H1 := Lib.hid h1
  clear h1
  have H2 := Lib.hid h2
  clear h2
  have H3 := Lib.hid h3
  clear h3
  have H4 := Lib.hid h4
  clear h4
  have HM := Lib.hid hm
  clear hm
  by_cases hl : 65535 < 20 + p.opts.size + p.pl + p.data.size
  · rw [show p.long = 3 from if_pos hl]
    go_enter Try.func38, Try.ntmps38
    go_wp2_with fail
    refine (rwithin_at _ _ _ H0.out _).mono ?_
    rintro e w0 ⟨rfl, rfl⟩
    go_wp2_with fail
    refine (rwithin_at _ _ _ H1.out _).mono ?_
    rintro e w1 ⟨rfl, rfl⟩
    go_wp2_with fail
    refine (rwithin_at _ _ _ H2.out _).mono ?_
    rintro e w2 ⟨rfl, rfl⟩
    go_wp2_with fail
    refine (rwithin_at _ _ _ H3.out _).mono ?_
    rintro e w3 ⟨rfl, rfl⟩
    go_wp2_with fail
    refine (rwithin_at _ _ _ H4.out _).mono ?_
    rintro e w4 ⟨rfl, rfl⟩
    have hm := HM.out
    go_wp2_with fail
    go_ret
    exact ⟨rfl, (Below.refl _ _).alloc (Nat.le_refl _) _⟩
  · rw [show p.long = 0 from if_neg hl]
    go_enter Try.func38, Try.ntmps38
    go_wp2_with fail
    refine (rwithin_at _ _ _ H0.out _).mono ?_
    rintro e w0 ⟨rfl, rfl⟩
    go_wp2_with fail
    refine (rwithin_at _ _ _ H1.out _).mono ?_
    rintro e w1 ⟨rfl, rfl⟩
    go_wp2_with fail
    refine (rwithin_at _ _ _ H2.out _).mono ?_
    rintro e w2 ⟨rfl, rfl⟩
    go_wp2_with fail
    refine (rwithin_at _ _ _ H3.out _).mono ?_
    rintro e w3 ⟨rfl, rfl⟩
    go_wp2_with fail
    refine (rwithin_at _ _ _ H4.out _).mono ?_
    rintro e w4 ⟨rfl, rfl⟩
    have hm := HM.out
    go_wp2_with fail
    go_ret
    exact ⟨rfl, (Below.refl _ _).alloc (Nat.le_refl _) _⟩
set_option maxRecDepth 100000 in
set_option maxHeartbeats 400000 in
theorem why_end2 (p : Pkt) (w : World) (h0 : inB p.tos 255 = true) (h1 : inB p.ttl 255 = true) (h2 : inB p.proto 255 = true) (h3 : inB p.id 65535 = true) (h4 : inB p.pl 65528 = true) (h5 : (p.pl % 8 != 0) = false) (h : p.opts.size ≤ 40) (g4 : ((p.opts.size : Int) % 4 != 0) = false) (hm : p.more = true) (g0 : ((p.data.size : Int) == 0) = false) (g8 : ((p.data.size : Int) % 8 != 0) = false) (hd : p.data.size ≤ 70000) :
    Calls Try.prog 38 #[.agg p.vals.toArray] w fun e w' => e = .returned (.int .i64 p.long) ∧ Below w.heap.size w w' := by
  show Calls _ _ #[.agg #[.int .i64 p.tos, .int .i64 p.id, .int .i64 p.ttl, .int .i64 p.proto, .int .i64 p.pl, .bool p.df, .bool p.more, .int .u8 p.a0, .int .u8 p.a1, .int .u8 p.a2, .int .u8 p.a3, .int .u8 p.b0, .int .u8 p.b1, .int .u8 p.b2, .int .u8 p.b3, .string p.opts, .string p.data]] _ _
  have hp := (inB_iff _ _).1 h4
  have hp0 := hp.1
  have hp1 := hp.2
  clear hp
  have H0 := Lib.hid h0
  clear h0
  have H1 := Lib.hid h1
  clear h1
  have H2 := Lib.hid h2
  clear h2
  have H3 := Lib.hid h3
  clear h3
  have H4 := Lib.hid h4
  clear h4
  have HM := Lib.hid hm
  clear hm
  by_cases hl : 65535 < 20 + p.opts.size + p.pl + p.data.size
  · rw [show p.long = 3 from if_pos hl]
    go_enter Try.func38, Try.ntmps38
    go_wp2_with fail
    refine (rwithin_at _ _ _ H0.out _).mono ?_
    rintro e w0 ⟨rfl, rfl⟩
    go_wp2_with fail
    refine (rwithin_at _ _ _ H1.out _).mono ?_
    rintro e w1 ⟨rfl, rfl⟩
    go_wp2_with fail
    refine (rwithin_at _ _ _ H2.out _).mono ?_
    rintro e w2 ⟨rfl, rfl⟩
    go_wp2_with fail
    refine (rwithin_at _ _ _ H3.out _).mono ?_
    rintro e w3 ⟨rfl, rfl⟩
    go_wp2_with fail
    refine (rwithin_at _ _ _ H4.out _).mono ?_
    rintro e w4 ⟨rfl, rfl⟩
    have hm := HM.out
    go_wp2_with fail
    go_ret
    exact ⟨rfl, (Below.refl _ _).alloc (Nat.le_refl _) _⟩
  · rw [show p.long = 0 from if_neg hl]
    go_enter Try.func38, Try.ntmps38
    go_wp2_with fail
    refine (rwithin_at _ _ _ H0.out _).mono ?_
    rintro e w0 ⟨rfl, rfl⟩
    go_wp2_with fail
    refine (rwithin_at _ _ _ H1.out _).mono ?_
    rintro e w1 ⟨rfl, rfl⟩
    go_wp2_with fail
    refine (rwithin_at _ _ _ H2.out _).mono ?_
    rintro e w2 ⟨rfl, rfl⟩
    go_wp2_with fail
    refine (rwithin_at _ _ _ H3.out _).mono ?_
    rintro e w3 ⟨rfl, rfl⟩
    go_wp2_with fail
    refine (rwithin_at _ _ _ H4.out _).mono ?_
    rintro e w4 ⟨rfl, rfl⟩
    have hm := HM.out
    go_wp2_with fail
    go_ret
    exact ⟨rfl, (Below.refl _ _).alloc (Nat.le_refl _) _⟩
theorem rwhy_range (p : Pkt) (w : World) (hb : p.bnd = false) :
    Calls Try.prog 38 #[.agg p.vals.toArray] w fun e w' => e = .returned (.int .i64 13) ∧ Below w.heap.size w w' := by
  unfold Pkt.bnd at hb
  cases h0 : inB p.tos 255
  · exact why_0 p w h0
  · rw [h0, Bool.true_and] at hb
    cases h1 : inB p.ttl 255
    · exact why_1 p w h0 h1
    · rw [h1, Bool.true_and] at hb
      cases h2 : inB p.proto 255
      · exact why_2 p w h0 h1 h2
      · rw [h2, Bool.true_and] at hb
        cases h3 : inB p.id 65535
        · exact why_3 p w h0 h1 h2 h3
        · rw [h3, Bool.true_and] at hb
          cases h4 : inB p.pl 65528
          · exact why_4 p w h0 h1 h2 h3 h4
          · rw [h4, Bool.true_and] at hb
            exact why_5 p w h0 h1 h2 h3 h4 (by rw [beq_eq_false_iff_ne] at hb; rw [bne_iff_ne]; exact hb)
theorem bnd_parts {p : Pkt} (h : p.bnd = true) : inB p.tos 255 = true ∧ inB p.ttl 255 = true ∧ inB p.proto 255 = true ∧ inB p.id 65535 = true ∧ inB p.pl 65528 = true ∧ (p.pl % 8 != 0) = false := by
  unfold Pkt.bnd at h
  simp only [Bool.and_eq_true, beq_iff_eq] at h
  obtain ⟨h1, h2, h3, h4, h5, h6⟩ := h
  exact ⟨h1, h2, h3, h4, h5, by rw [h6]; rfl⟩
theorem rwhy_many (p : Pkt) (w : World) (hb : p.bnd = true) (h : 40 < p.opts.size) (hz : p.opts.size ≤ 70000) :
    Calls Try.prog 38 #[.agg p.vals.toArray] w fun e w' => e = .returned (.int .i64 8) ∧ Below w.heap.size w w' := by
  obtain ⟨h0, h1, h2, h3, h4, h5⟩ := bnd_parts hb
  exact why_many p w h0 h1 h2 h3 h4 h5 h hz
theorem rwhy_odd (p : Pkt) (w : World) (hb : p.bnd = true) (h : p.opts.size ≤ 40) (g4 : ((p.opts.size : Int) % 4 != 0) = true) :
    Calls Try.prog 38 #[.agg p.vals.toArray] w fun e w' => e = .returned (.int .i64 8) ∧ Below w.heap.size w w' := by
  obtain ⟨h0, h1, h2, h3, h4, h5⟩ := bnd_parts hb
  exact why_odd p w h0 h1 h2 h3 h4 h5 h g4
theorem rwhy_none (p : Pkt) (w : World) (hb : p.bnd = true) (h : p.opts.size ≤ 40) (g4 : ((p.opts.size : Int) % 4 != 0) = false) (hm : p.more = true) (g0 : ((p.data.size : Int) == 0) = true) :
    Calls Try.prog 38 #[.agg p.vals.toArray] w fun e w' => e = .returned (.int .i64 8) ∧ Below w.heap.size w w' := by
  obtain ⟨h0, h1, h2, h3, h4, h5⟩ := bnd_parts hb
  exact why_none p w h0 h1 h2 h3 h4 h5 h g4 hm g0
theorem rwhy_eight (p : Pkt) (w : World) (hb : p.bnd = true) (h : p.opts.size ≤ 40) (g4 : ((p.opts.size : Int) % 4 != 0) = false) (hm : p.more = true) (g0 : ((p.data.size : Int) == 0) = false) (g8 : ((p.data.size : Int) % 8 != 0) = true) :
    Calls Try.prog 38 #[.agg p.vals.toArray] w fun e w' => e = .returned (.int .i64 8) ∧ Below w.heap.size w w' := by
  obtain ⟨h0, h1, h2, h3, h4, h5⟩ := bnd_parts hb
  exact why_eight p w h0 h1 h2 h3 h4 h5 h g4 hm g0 g8
theorem rwhy_end1 (p : Pkt) (w : World) (hb : p.bnd = true) (h : p.opts.size ≤ 40) (g4 : ((p.opts.size : Int) % 4 != 0) = false) (hm : p.more = false) (hd : p.data.size ≤ 70000) :
    Calls Try.prog 38 #[.agg p.vals.toArray] w fun e w' => e = .returned (.int .i64 p.long) ∧ Below w.heap.size w w' := by
  obtain ⟨h0, h1, h2, h3, h4, h5⟩ := bnd_parts hb
  exact why_end1 p w h0 h1 h2 h3 h4 h5 h g4 hm hd
theorem rwhy_end2 (p : Pkt) (w : World) (hb : p.bnd = true) (h : p.opts.size ≤ 40) (g4 : ((p.opts.size : Int) % 4 != 0) = false) (hm : p.more = true) (g0 : ((p.data.size : Int) == 0) = false) (g8 : ((p.data.size : Int) % 8 != 0) = false) (hd : p.data.size ≤ 70000) :
    Calls Try.prog 38 #[.agg p.vals.toArray] w fun e w' => e = .returned (.int .i64 p.long) ∧ Below w.heap.size w w' := by
  obtain ⟨h0, h1, h2, h3, h4, h5⟩ := bnd_parts hb
  exact why_end2 p w h0 h1 h2 h3 h4 h5 h g4 hm g0 g8 hd
theorem rwhy_any (p : Pkt) (w : World) (hd : p.data.size ≤ 70000) (hz : p.opts.size ≤ 70000) :
    Calls Try.prog 38 #[.agg p.vals.toArray] w fun e w' => e = .returned (.int .i64 p.why) ∧ Below w.heap.size w w' := by
  unfold Pkt.why
  cases hb : p.bnd
  · rw [if_pos rfl]
    exact rwhy_range p w hb
  · rw [if_neg (by simp)]
    by_cases h40 : 40 < p.opts.size
    · rw [if_pos (.inl h40)]
      exact rwhy_many p w hb h40 hz
    · by_cases h4 : p.opts.size % 4 = 0
      · rw [if_neg (by omega)]
        have g4 : ((p.opts.size : Int) % 4 != 0) = false := by rw [show (p.opts.size : Int) % 4 = 0 by omega]; rfl
        cases hm : p.more
        · rw [if_neg (by simp)]
          exact rwhy_end1 p w hb (by omega) g4 hm hd
        · by_cases h0 : p.data.size = 0
          · rw [if_pos ⟨rfl, .inl h0⟩]
            exact rwhy_none p w hb (by omega) g4 hm (by rw [h0]; rfl)
          · have g0 : ((p.data.size : Int) == 0) = false := by rw [beq_eq_false_iff_ne]; omega
            by_cases h8 : p.data.size % 8 = 0
            · rw [if_neg (by omega)]
              exact rwhy_end2 p w hb (by omega) g4 hm g0 (by rw [show (p.data.size : Int) % 8 = 0 by omega]; rfl) hd
            · rw [if_pos ⟨rfl, .inr h8⟩]
              exact rwhy_eight p w hb (by omega) g4 hm g0 (by rw [bne_iff_ne]; omega)
      · rw [if_pos (.inr h4)]
        exact rwhy_odd p w hb (by omega) (by rw [bne_iff_ne]; omega)
end Go.Proofs.Ytjfkfeobmcnonaa
