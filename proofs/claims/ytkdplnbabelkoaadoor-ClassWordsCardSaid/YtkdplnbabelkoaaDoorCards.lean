/-
  DERIVED. GIVEN WITH THE SEED: THE CARDS: each row of YtkdplnbabelkoaaDoorRows.lean that lists a variable, with what it lists TIED to the program's text (the seventh form; the later family's looks); each row that meets fmt, with fmt's text TOLD by the authors' own Lean function (tested against real Go, not proved from fmt's source: count such statements apart). THE CARD IS WHAT COUNTS. Prove the row's statement (the work); the ties are given (YtkdplnbabelkoaaDoorTie.lean); close each card by the builder's one call (the guide's Derived/Test/ToyasCard.lean, 'card_holds'). Laid BY PROGRAM, IN A SANDBOX (cutbox-door.mjs). By AI agents, Wed Nov 11 2026. No macro, syntax, notation, axiom, sorry.
-/
import Derived.Test.YtkdplnbabelkoaaDoorRows
import GoSem.ClaimSeven
namespace Go.Proofs.YtkdplnbabelkoaaDoor
namespace Rows

/-- THE TIED CARD OF 'interpreterlaw10.ClassKnown'. -/
def classKnownCard : Claim7 := { stood := { row := classKnownRow, standIns := [], harness := (true, "33570fc254f62bb479eadfb292b1768f242a77e623a76e3f8ed590bd237e12cb"), looks := false }, kinds := [], alts := [], laidByText := true, laidKinds := [.data, .data, .data, .data, .data, .data], laidTests := true, laidLooks := .later }
def ClassKnownCardSaid : Prop := Claim7.holds Tryd.pinned (.plain (OpenSpec.ofChange classKnownSpec)) classKnownCard

/-- THE TIED CARD OF 'interpreterlaw10.ClassReads'. -/
def classReadsCard : Claim7 := { stood := { row := classReadsRow, standIns := [], harness := (true, "33570fc254f62bb479eadfb292b1768f242a77e623a76e3f8ed590bd237e12cb"), looks := false }, kinds := [], alts := [], laidByText := true, laidKinds := [.data, .data, .data], laidTests := true, laidLooks := .later }
def ClassReadsCardSaid : Prop := Claim7.holds Tryd.pinned (.plain (OpenSpec.ofChange classReadsSpec)) classReadsCard

/-- THE TIED CARD OF 'interpreterlaw10.ClassHolds'. -/
def classHoldsCard : Claim7 := { stood := { row := classHoldsRow, standIns := [], harness := (true, "33570fc254f62bb479eadfb292b1768f242a77e623a76e3f8ed590bd237e12cb"), looks := false }, kinds := [], alts := [], laidByText := true, laidKinds := [.data, .data, .data, .data, .data, .data, .data], laidTests := true, laidLooks := .later }
def ClassHoldsCardSaid : Prop := Claim7.holds Tryd.pinned (.plain (OpenSpec.ofChange classHoldsSpec)) classHoldsCard

/-- THE TIED CARD OF 'interpreterlaw10.ClassNear'. -/
def classNearCard : Claim7 := { stood := { row := classNearRow, standIns := [], harness := (true, "33570fc254f62bb479eadfb292b1768f242a77e623a76e3f8ed590bd237e12cb"), looks := false }, kinds := [], alts := [], laidByText := true, laidKinds := [.data, .data, .data, .data, .data, .data, .data], laidTests := true, laidLooks := .later }
def ClassNearCardSaid : Prop := Claim7.holds Tryd.pinned (.plain (OpenSpec.ofChange classNearSpec)) classNearCard

/-- THE TIED CARD OF 'interpreterlaw10.ClassBack'. -/
def classBackCard : Claim7 := { stood := { row := classBackRow, standIns := [], harness := (true, "33570fc254f62bb479eadfb292b1768f242a77e623a76e3f8ed590bd237e12cb"), looks := false }, kinds := [], alts := [], laidByText := true, laidKinds := [.data, .data, .data], laidTests := true, laidLooks := .later }
def ClassBackCardSaid : Prop := Claim7.holds Tryd.pinned (.plain (OpenSpec.ofChange classBackSpec)) classBackCard

/-- THE TIED CARD OF 'interpreterlaw10.ClassWords'. -/
def classWordsCard : Claim7 := { stood := { row := classWordsRow, standIns := [], harness := (true, "33570fc254f62bb479eadfb292b1768f242a77e623a76e3f8ed590bd237e12cb"), looks := false }, kinds := [], alts := [], laidByText := true, laidKinds := [.data, .data, .data], laidTests := true, laidLooks := .later }
def ClassWordsCardSaid : Prop := Claim7.holds Tryd.pinned (.plain (OpenSpec.ofChange classWordsSpec)) classWordsCard

/-- THE TIED CARD OF 'interpreterlaw10.ClassShorter'. -/
def classShorterCard : Claim7 := { stood := { row := classShorterRow, standIns := [], harness := (true, "33570fc254f62bb479eadfb292b1768f242a77e623a76e3f8ed590bd237e12cb"), looks := false }, kinds := [], alts := [], laidByText := true, laidKinds := [.data, .data, .data], laidTests := true, laidLooks := .later }
def ClassShorterCardSaid : Prop := Claim7.holds Tryd.pinned (.plain (OpenSpec.ofChange classShorterSpec)) classShorterCard

/-- THE TIED CARD OF 'interpreterlaw10.ClassNets'. -/
def classNetsCard : Claim7 := { stood := { row := classNetsRow, standIns := [], harness := (true, "33570fc254f62bb479eadfb292b1768f242a77e623a76e3f8ed590bd237e12cb"), looks := false }, kinds := [], alts := [], laidByText := true, laidKinds := [.data, .data, .data], laidTests := true, laidLooks := .later }
def ClassNetsCardSaid : Prop := Claim7.holds Tryd.pinned (.plain (OpenSpec.ofChange classNetsSpec)) classNetsCard

/-- THE TIED CARD OF 'interpreterlaw10.ClassAll'. -/
def classAllCard : Claim7 := { stood := { row := classAllRow, standIns := [], harness := (true, "33570fc254f62bb479eadfb292b1768f242a77e623a76e3f8ed590bd237e12cb"), looks := false }, kinds := [], alts := [], laidByText := true, laidKinds := [.data, .data, .data, .data, .data, .data], laidTests := true, laidLooks := .later }
def ClassAllCardSaid : Prop := Claim7.holds Tryd.pinned (.plain (OpenSpec.ofChange classAllSpec)) classAllCard

/-- THE SECOND FORM's CARD OF 'interpreterlaw10.ClassKnown'. -/
def classKnownUptoCard : Claim7 := { stood := { row := classKnownUptoRow, standIns := [], harness := (true, "33570fc254f62bb479eadfb292b1768f242a77e623a76e3f8ed590bd237e12cb"), looks := false }, kinds := [], alts := [], laidByText := true, laidKinds := [.data, .data, .data, .data, .data, .data], laidTests := true, laidLooks := .later }
def ClassKnownUptoCardSaid : Prop := Claim7.holds Tryd.pinned (.plain (OpenSpec.upto classKnownSpec)) classKnownUptoCard

/-- THE SECOND FORM's CARD OF 'interpreterlaw10.ClassReads'. -/
def classReadsUptoCard : Claim7 := { stood := { row := classReadsUptoRow, standIns := [], harness := (true, "33570fc254f62bb479eadfb292b1768f242a77e623a76e3f8ed590bd237e12cb"), looks := false }, kinds := [], alts := [], laidByText := true, laidKinds := [.data, .data, .data], laidTests := true, laidLooks := .later }
def ClassReadsUptoCardSaid : Prop := Claim7.holds Tryd.pinned (.plain (OpenSpec.upto classReadsSpec)) classReadsUptoCard

/-- THE SECOND FORM's CARD OF 'interpreterlaw10.ClassHolds'. -/
def classHoldsUptoCard : Claim7 := { stood := { row := classHoldsUptoRow, standIns := [], harness := (true, "33570fc254f62bb479eadfb292b1768f242a77e623a76e3f8ed590bd237e12cb"), looks := false }, kinds := [], alts := [], laidByText := true, laidKinds := [.data, .data, .data, .data, .data, .data, .data], laidTests := true, laidLooks := .later }
def ClassHoldsUptoCardSaid : Prop := Claim7.holds Tryd.pinned (.plain (OpenSpec.upto classHoldsSpec)) classHoldsUptoCard

/-- THE SECOND FORM's CARD OF 'interpreterlaw10.ClassNear'. -/
def classNearUptoCard : Claim7 := { stood := { row := classNearUptoRow, standIns := [], harness := (true, "33570fc254f62bb479eadfb292b1768f242a77e623a76e3f8ed590bd237e12cb"), looks := false }, kinds := [], alts := [], laidByText := true, laidKinds := [.data, .data, .data, .data, .data, .data, .data], laidTests := true, laidLooks := .later }
def ClassNearUptoCardSaid : Prop := Claim7.holds Tryd.pinned (.plain (OpenSpec.upto classNearSpec)) classNearUptoCard

/-- THE SECOND FORM's CARD OF 'interpreterlaw10.ClassBack'. -/
def classBackUptoCard : Claim7 := { stood := { row := classBackUptoRow, standIns := [], harness := (true, "33570fc254f62bb479eadfb292b1768f242a77e623a76e3f8ed590bd237e12cb"), looks := false }, kinds := [], alts := [], laidByText := true, laidKinds := [.data, .data, .data], laidTests := true, laidLooks := .later }
def ClassBackUptoCardSaid : Prop := Claim7.holds Tryd.pinned (.plain (OpenSpec.upto classBackSpec)) classBackUptoCard

/-- THE SECOND FORM's CARD OF 'interpreterlaw10.ClassWords'. -/
def classWordsUptoCard : Claim7 := { stood := { row := classWordsUptoRow, standIns := [], harness := (true, "33570fc254f62bb479eadfb292b1768f242a77e623a76e3f8ed590bd237e12cb"), looks := false }, kinds := [], alts := [], laidByText := true, laidKinds := [.data, .data, .data], laidTests := true, laidLooks := .later }
def ClassWordsUptoCardSaid : Prop := Claim7.holds Tryd.pinned (.plain (OpenSpec.upto classWordsSpec)) classWordsUptoCard

/-- THE SECOND FORM's CARD OF 'interpreterlaw10.ClassShorter'. -/
def classShorterUptoCard : Claim7 := { stood := { row := classShorterUptoRow, standIns := [], harness := (true, "33570fc254f62bb479eadfb292b1768f242a77e623a76e3f8ed590bd237e12cb"), looks := false }, kinds := [], alts := [], laidByText := true, laidKinds := [.data, .data, .data], laidTests := true, laidLooks := .later }
def ClassShorterUptoCardSaid : Prop := Claim7.holds Tryd.pinned (.plain (OpenSpec.upto classShorterSpec)) classShorterUptoCard

/-- THE SECOND FORM's CARD OF 'interpreterlaw10.ClassNets'. -/
def classNetsUptoCard : Claim7 := { stood := { row := classNetsUptoRow, standIns := [], harness := (true, "33570fc254f62bb479eadfb292b1768f242a77e623a76e3f8ed590bd237e12cb"), looks := false }, kinds := [], alts := [], laidByText := true, laidKinds := [.data, .data, .data], laidTests := true, laidLooks := .later }
def ClassNetsUptoCardSaid : Prop := Claim7.holds Tryd.pinned (.plain (OpenSpec.upto classNetsSpec)) classNetsUptoCard

/-- THE SECOND FORM's CARD OF 'interpreterlaw10.ClassAll'. -/
def classAllUptoCard : Claim7 := { stood := { row := classAllUptoRow, standIns := [], harness := (true, "33570fc254f62bb479eadfb292b1768f242a77e623a76e3f8ed590bd237e12cb"), looks := false }, kinds := [], alts := [], laidByText := true, laidKinds := [.data, .data, .data, .data, .data, .data], laidTests := true, laidLooks := .later }
def ClassAllUptoCardSaid : Prop := Claim7.holds Tryd.pinned (.plain (OpenSpec.upto classAllSpec)) classAllUptoCard
end Rows
end Go.Proofs.YtkdplnbabelkoaaDoor
