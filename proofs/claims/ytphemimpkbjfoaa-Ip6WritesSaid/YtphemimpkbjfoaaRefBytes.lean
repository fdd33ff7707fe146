/-
  Proved here: what the document's Bytes answers of any packet.
  Conditions: a small packet.
-/
import Derived.Test.YtphemimpkbjfoaaRefWhy
import Derived.Test.YtphemimpkbjfoaaRefBytesW
import Derived.Test.YtphemimpkbjfoaaRefBytesF0
import Derived.Test.YtphemimpkbjfoaaRefBytesF1
namespace Go.Proofs.Ytphemimpkbjfoaa
open Go.RowKit

set_option maxRecDepth 100000 in
theorem rbytes_bad (p : Pk6) (v : Value) (w : World) (hx : Exs w v p.exts) (hs : Sm p) (hy : (p.why != 0) = true) :
    Calls Try.prog 20 #[.agg (p.vals v).toArray] w fun e w' => e = .returned (.tuple #[.string ⟨#[]⟩, .int .i64 p.why]) ∧ Below w.heap.size w w' := by
  obtain ⟨V, hV, hVl, hD, hK⟩ := boxed6 p v w
  have HIv : Hid ((Try.prog.info? 31).map (·.size) = some V.length) := Lib.hid (by rw [hV]; exact Try.info6 p _)
  have HW : Hid (∀ W, Below w.heap.size w W → Calls Try.prog 41 #[.agg V.toArray] W fun e w' => e = .returned (.int .i64 p.why) ∧ Below W.heap.size W w') := Lib.hid (fun W hW => by rw [hV]; exact rwhy_any p v W (hx.below hW (Nat.le_refl _)) hs)
  rw [← hV]
  have HK0 := Lib.hid hK
  have hrg := hK.hd.range
  clear hV hK hD hs hx
  generalize p.why = c at *
  generalize hw1 : w.alloc (.cells V.toArray 31) = w1 at *
  go_enter Try.func20, Try.ntmps20
  go_upto_region 1 with (fail)
  clear hw1
  go_wp2_with (refine wpList_load_mid rfl 31 _ rfl _ 0 rfl V _ hrg Try.underlying31 rfl HIv.out ?_)
  refine (HW.out _ HK0.out.2.1).mono ?_
  rintro e w2 ⟨rfl, b1⟩
  have HK1 := Lib.hid (HK0.out.below b1 (Nat.le_refl _))
  clear b1 HK0 hrg HW
  go_wp2_with fail
  go_ret2
  exact ⟨rfl, HK1.out.2.1⟩
theorem rbytes_any (p : Pk6) (v : Value) (w : World) (hx : Exs w v p.exts) (hs : Sm p) (hid : 0 ≤ p.id ∧ p.id < 4294967296) :
    Calls Try.prog 20 #[.agg (p.vals v).toArray] w fun e w' => e = .returned (.tuple #[.string p.out, .int .i64 p.why]) ∧ Below w.heap.size w w' := by
  unfold Pk6.out
  by_cases hw : p.why = 0
  · rw [if_pos hw, hw]
    cases hf : p.frag
    · exact rbytes_w p v w hx hw hid hf (fun W hW => rwhy_any p v W hW hs)
    · cases hm : p.more
      · exact rbytes_f0 p v w hx hw hid hf hm (fun W hW => rwhy_any p v W hW hs)
      · exact rbytes_f1 p v w hx hw hid hf hm (fun W hW => rwhy_any p v W hW hs)
  · rw [if_neg hw]
    exact rbytes_bad p v w hx hs (by rw [bne_iff_ne]; exact hw)
end Go.Proofs.Ytphemimpkbjfoaa
