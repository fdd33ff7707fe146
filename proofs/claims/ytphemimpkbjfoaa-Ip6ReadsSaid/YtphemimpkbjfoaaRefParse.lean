/-
  Proved here: what the document's Parse answers of any text.
  Conditions: texts of at most 70000 bytes.
-/
import Derived.Test.YtphemimpkbjfoaaRefParseA
import Derived.Test.YtphemimpkbjfoaaRefParseB
import Derived.Test.YtphemimpkbjfoaaRefParseC
namespace Go.Proofs.Ytphemimpkbjfoaa
open Go.RowKit

/-- The packet that the document's Parse answers. -/
def rpkt (s : ByteArray) : Pk6 := if pcode s = 0 then ppkt s else pk0
theorem rparse_any (s : ByteArray) (w : World) (hs : s.size ≤ 70000) : Calls Try.prog 22 #[.string s] w (RPar (rpkt s) (pcode s) w) := by
  unfold rpkt
  by_cases h40 : 40 ≤ s.size
  · by_cases h6 : (hdW s : Int) / 268435456 = 6
    · by_cases hb : s.size < 40 + hdL s
      · have e : pcode s = 7 := by unfold pcode; rw [dif_pos h40, if_neg (fun h => h h6), if_pos hb]
        rw [if_neg (by rw [e]; decide), e]
        exact rparse_behind s w hs h40 h6 hb
      · by_cases hc : (prC s).code = 0
        · by_cases hp : (prC s).proto = 44
          · by_cases h8 : (prC s).rest.size < 8
            · have e : pcode s = 7 := by unfold pcode; rw [dif_pos h40, if_neg (fun h => h h6), if_neg hb, if_neg (fun h => h hc), if_neg (fun h => h hp), if_pos h8]
              rw [if_neg (by rw [e]; decide), e]
              exact rparse_fshort s w hs h40 h6 hb hc hp h8
            · by_cases hd : (frP (prP s h40)).piece = false ∨ (frP (prP s h40)).rch = false
              · have e : pcode s = 8 := by unfold pcode; rw [dif_pos h40, if_neg (fun h => h h6), if_neg hb, if_neg (fun h => h hc), if_neg (fun h => h hp), if_neg h8, if_pos hd]
                rw [if_neg (by rw [e]; decide), e]
                exact rparse_fbad s w hs h40 h6 hb hc hp h8 hd
              · have e : pcode s = 0 := by unfold pcode; rw [dif_pos h40, if_neg (fun h => h h6), if_neg hb, if_neg (fun h => h hc), if_neg (fun h => h hp), if_neg h8, if_neg hd]
                have e2 : ppkt s = frP (prP s h40) := by unfold ppkt; rw [dif_pos h40, if_pos hp]
                rw [if_pos e, e, e2]
                have h1 : (frP (prP s h40)).piece = true := by
                  cases h : (frP (prP s h40)).piece
                  · exact absurd (.inl h) hd
                  · rfl
                have h2 : (frP (prP s h40)).rch = true := by
                  cases h : (frP (prP s h40)).rch
                  · exact absurd (.inr h) hd
                  · rfl
                exact rparse_fok s w hs h40 h6 hb hc hp h8 h1 h2
          · have e : pcode s = 0 := by unfold pcode; rw [dif_pos h40, if_neg (fun h => h h6), if_neg hb, if_neg (fun h => h hc), if_pos hp]
            have e2 : ppkt s = prP s h40 := by unfold ppkt; rw [dif_pos h40, if_neg hp]
            rw [if_pos e, e, e2]
            exact rparse_whole s w hs h40 h6 hb hc hp
        · have e : pcode s = (prC s).code := by unfold pcode; rw [dif_pos h40, if_neg (fun h => h h6), if_neg hb, if_pos hc]
          rw [if_neg (by rw [e]; exact hc), e]
          exact rparse_chain s w hs h40 h6 hb hc
    · have e : pcode s = 8 := by unfold pcode; rw [dif_pos h40, if_pos h6]
      rw [if_neg (by rw [e]; decide), e]
      exact rparse_first s w h40 h6
  · have e : pcode s = 7 := by unfold pcode; rw [dif_neg h40]
    rw [if_neg (by rw [e]; decide), e]
    exact rparse_short s w h40
end Go.Proofs.Ytphemimpkbjfoaa
