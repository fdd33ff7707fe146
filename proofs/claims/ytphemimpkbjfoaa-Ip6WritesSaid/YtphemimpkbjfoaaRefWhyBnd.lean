/-
  Proved here: the document's Why of a packet that is out of bounds.
  Conditions: none.
-/
import Derived.Test.YtphemimpkbjfoaaBack
import Derived.Test.YtphemimpkbjfoaaRefNumber
namespace Go.Proofs.Ytphemimpkbjfoaa
open Go.RowKit

set_option maxRecDepth 100000 in
set_option maxHeartbeats 2000000 in
theorem rwhy_bnd (p : Pk6) (v : Value) (w : World) (hb : p.bnd = false) :
    Calls Try.prog 41 #[.agg (p.vals v).toArray] w fun e w' => e = .returned (.int .i64 13) ∧ Below w.heap.size w w' := by
  have HQ : Hid (p.bnd = (inB p.cls 255 && (inB p.flow 1048575 && (inB p.hop 255 && (inB p.proto 255 && (inB p.pl 65528 && (p.pl % 8 == 0))))))) := Lib.hid rfl
  have HF := Lib.hid hb
  obtain ⟨V, hV, hVl, hD, hK⟩ := boxed6 p v w
  rw [← hV]
  clear hV hb
  have d0 := hD.c0
  have d1 := hD.c1
  have d2 := hD.c2
  have d38 := hD.c38
  have d40 := hD.c40
  have HB := Lib.hid hK.2.1
  clear hD hK
  generalize hw1 : w.alloc (.cells V.toArray 31) = w1 at *
  go_enter Try.func41, Try.ntmps41
  go_upto_region 1 with (fail)
  clear hw1
  cases g0 : inB p.cls 255
  · have h0 := Lib.hid g0
    clear g0
    go_wp2_with fail
    refine (rbound_at _ _ _ h0.out _).mono ?_
    rintro e w1 ⟨rfl, rfl⟩
    go_wp2_with fail
    go_ret
    exact ⟨rfl, HB.out⟩
  · have h0 := Lib.hid g0
    clear g0
    cases g1 : inB p.flow 1048575
    · have h1 := Lib.hid g1
      clear g1
      go_wp2_with fail
      refine (rbound_at _ _ _ h0.out _).mono ?_
      rintro e w1 ⟨rfl, rfl⟩
      go_wp2_with fail
      refine (rbound_at _ _ _ h1.out _).mono ?_
      rintro e w1 ⟨rfl, rfl⟩
      go_wp2_with fail
      go_ret
      exact ⟨rfl, HB.out⟩
    · have h1 := Lib.hid g1
      clear g1
      cases g2 : inB p.hop 255
      · have h2 := Lib.hid g2
        clear g2
        go_wp2_with fail
        refine (rbound_at _ _ _ h0.out _).mono ?_
        rintro e w1 ⟨rfl, rfl⟩
        go_wp2_with fail
        refine (rbound_at _ _ _ h1.out _).mono ?_
        rintro e w1 ⟨rfl, rfl⟩
        go_wp2_with fail
        refine (rbound_at _ _ _ h2.out _).mono ?_
        rintro e w1 ⟨rfl, rfl⟩
        go_wp2_with fail
        go_ret
        exact ⟨rfl, HB.out⟩
      · have h2 := Lib.hid g2
        clear g2
        cases g3 : inB p.proto 255
        · have h3 := Lib.hid g3
          clear g3
          go_wp2_with fail
          refine (rbound_at _ _ _ h0.out _).mono ?_
          rintro e w1 ⟨rfl, rfl⟩
          go_wp2_with fail
          refine (rbound_at _ _ _ h1.out _).mono ?_
          rintro e w1 ⟨rfl, rfl⟩
          go_wp2_with fail
          refine (rbound_at _ _ _ h2.out _).mono ?_
          rintro e w1 ⟨rfl, rfl⟩
          go_wp2_with fail
          refine (rbound_at _ _ _ h3.out _).mono ?_
          rintro e w1 ⟨rfl, rfl⟩
          go_wp2_with fail
          go_ret
          exact ⟨rfl, HB.out⟩
        · have h3 := Lib.hid g3
          clear g3
          cases g4 : inB p.pl 65528
          · have h4 := Lib.hid g4
            clear g4
            go_wp2_with fail
            refine (rbound_at _ _ _ h0.out _).mono ?_
            rintro e w1 ⟨rfl, rfl⟩
            go_wp2_with fail
            refine (rbound_at _ _ _ h1.out _).mono ?_
            rintro e w1 ⟨rfl, rfl⟩
            go_wp2_with fail
            refine (rbound_at _ _ _ h2.out _).mono ?_
            rintro e w1 ⟨rfl, rfl⟩
            go_wp2_with fail
            refine (rbound_at _ _ _ h3.out _).mono ?_
            rintro e w1 ⟨rfl, rfl⟩
            go_wp2_with fail
            refine (rbound_at _ _ _ h4.out _).mono ?_
            rintro e w1 ⟨rfl, rfl⟩
            go_wp2_with fail
            go_ret
            exact ⟨rfl, HB.out⟩
          · have h4 := Lib.hid g4
            clear g4
            have h8 : (p.pl % 8 == 0) = false := by
              have := HQ.out
              rw [HF.out, h0.out, h1.out, h2.out, h3.out, h4.out] at this
              simpa using this.symm
            have hp : 0 ≤ p.pl := ((inB_iff _ _).1 h4.out).1
            have hm : Int.tmod p.pl 8 = p.pl % 8 := Int.tmod_eq_emod_of_nonneg hp
            have k4 : IntKind.i64.wrap (p.pl % 8) = p.pl % 8 := IntWalk.i64_in _ (by omega)
            have h9 : (p.pl % 8 != 0) = true := by simpa using h8
            go_wp2_with fail
            refine (rbound_at _ _ _ h0.out _).mono ?_
            rintro e w1 ⟨rfl, rfl⟩
            go_wp2_with fail
            refine (rbound_at _ _ _ h1.out _).mono ?_
            rintro e w1 ⟨rfl, rfl⟩
            go_wp2_with fail
            refine (rbound_at _ _ _ h2.out _).mono ?_
            rintro e w1 ⟨rfl, rfl⟩
            go_wp2_with fail
            refine (rbound_at _ _ _ h3.out _).mono ?_
            rintro e w1 ⟨rfl, rfl⟩
            go_wp2_with fail
            refine (rbound_at _ _ _ h4.out _).mono ?_
            rintro e w1 ⟨rfl, rfl⟩
            go_wp2_with fail
            go_ret
            exact ⟨rfl, HB.out⟩
end Go.Proofs.Ytphemimpkbjfoaa
