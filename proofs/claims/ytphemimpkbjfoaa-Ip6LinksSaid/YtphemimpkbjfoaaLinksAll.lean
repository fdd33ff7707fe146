/-
  Proved here: the law Ip6Links answers true whatever it is given.
  Conditions: none.
-/
import Derived.Test.YtphemimpkbjfoaaLinks
namespace Go.Proofs.Ytphemimpkbjfoaa
open Go.RowKit

theorem ip6Links_any (a : Int) (s : ByteArray) (b : Int) (r : Bool) (w : World) (ha : (Lit.int .u8 a).wf = true) (hb : (Lit.int .u8 b).wf = true) :
    Calls Try.prog 9 #[.int .u8 a, .string s, .int .u8 b, .bool r] w fun e w' => e = .returned (.bool true) ∧ Below w.heap.size w w' := by
  have h3 : 0 ≤ a ∧ a ≤ 255 := by simpa [Lit.wf, IntKind.min, IntKind.max, IntKind.signed, IntKind.bits] using ha
  have h4 : 0 ≤ b ∧ b ≤ 255 := by simpa [Lit.wf, IntKind.min, IntKind.max, IntKind.signed, IntKind.bits] using hb
  obtain ⟨n, rfl⟩ : ∃ n : Nat, a = n := ⟨a.toNat, by omega⟩
  obtain ⟨m, rfl⟩ : ∃ n : Nat, b = n := ⟨b.toNat, by omega⟩
  have hn : n < 256 := by omega
  have hm : m < 256 := by omega
  by_cases h : 3000 < s.size
  · exact ip6Links_long n m s r w h
  · obtain ⟨kd, hkd, hk⟩ : ∃ kd : Int, kd = (if r then 43 else 60) ∧ (kd = 43 ∨ kd = 60) := by cases r; exact ⟨60, rfl, .inr rfl⟩; exact ⟨43, rfl, .inl rfl⟩
    have hch := ahead_chn kd n m s hk (by omega) (by omega) (by omega) (by omega)
    rw [Int.toNat_natCast] at hch
    have hL := link (kd, zs (6 + 8 * m)) 8 [] (n : Int) s rfl
    obtain ⟨R, hR⟩ : ∃ R, chnE [] (n : Int) s = R := ⟨_, rfl⟩
    obtain ⟨R', hR'⟩ : ∃ R', chnE [] kd (ahead n m (6 + 8 * m) s) = R' := ⟨_, rfl⟩
    have hL : Lk (kd, zs (6 + 8 * m)) [] n R R' := by rw [← hR, ← hR', hch]; exact hL
    have hb : R.code ≠ 0 → R = bad R.code := by rw [← hR]; exact chn_bad _ _ _ _
    have hg : R.code = 0 → GoodC [] n s R := by rw [← hR]; exact fun h => chn_inv _ [] _ _ FL.nil (Nat.zero_le _) (by omega) (by omega) h
    by_cases hc : R.code = 0
    · have G := hg hc
      have hlen := G.len
      by_cases h8 : R.exts.length = 8
      · have hf := hL.full hc h8
        cases r
        · subst hkd
          exact ip6Links_full60 n m s w h hn hm R R' hR hR' hc h8 hf
        · subst hkd
          exact ip6Links_full43 n m s w h hn hm R R' hR hR' hc h8 hf
      · by_cases h0 : (n : Int) = 0
        · have hf := hL.head hc rfl h0
          have hh : ∃ y rl, R.exts = (0, y) :: rl := by
            rcases G.first with ⟨_, h2⟩ | ⟨y, rl, h2⟩
            · exact absurd (show isEx R.proto by rw [h2, h0]; exact .inl rfl) G.stop
            · exact ⟨y, rl, by rw [h2, h0]; rfl⟩
          cases r
          · subst hkd
            exact ip6Links_head60 n m s w h hn hm R R' hR hR' hc h8 hh hf
          · subst hkd
            exact ip6Links_head43 n m s w h hn hm R R' hR hR' hc h8 hh hf
        · have hf := hL.good hc h8 (fun h => h0 h.2)
          have hfi := G.first
          obtain ⟨l, pr, rs, cd⟩ := R
          obtain rfl : cd = 0 := hc
          rcases hfi with ⟨h1, _⟩ | ⟨y, rl, h1⟩
          · obtain rfl : l = [] := h1
            cases r
            · subst hkd
              exact ip6Links_one60 n m s w h hn hm _ R' hR hR' pr rs rfl hf
            · subst hkd
              exact ip6Links_one43 n m s w h hn hm _ R' hR hR' pr rs rfl hf
          · obtain rfl : l = (↑n, y) :: rl := h1
            have hK : rl.length < 7 := by
              have h1 : rl.length + 1 ≤ 8 := hlen
              have h2 : ¬ rl.length + 1 = 8 := h8
              omega
            cases r
            · subst hkd
              exact ip6Links_more60 n m s w h hn hm _ R' hR hR' n y rl pr rs hK h0 rfl hf
            · subst hkd
              exact ip6Links_more43 n m s w h hn hm _ R' hR hR' n y rl pr rs hK h0 rfl hf
    · have hf := hL.bad hc
      cases r
      · subst hkd
        exact ip6Links_bad60 n m s w h hn hm R R' hR hR' (hb hc) hc hf
      · subst hkd
        exact ip6Links_bad43 n m s w h hn hm R R' hR hR' (hb hc) hc hf
end Go.Proofs.Ytphemimpkbjfoaa
