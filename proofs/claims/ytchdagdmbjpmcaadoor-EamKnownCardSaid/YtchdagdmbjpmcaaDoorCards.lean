/-
  DERIVED. GIVEN WITH THE SEED: THE CARDS: each row of YtchdagdmbjpmcaaDoorRows.lean that lists a variable, with what it lists TIED to the program's text (the seventh form; the later family's looks); each row that meets fmt, with fmt's text TOLD by the authors' own Lean function (tested against real Go, not proved from fmt's source: count such statements apart). THE CARD IS WHAT COUNTS. Prove the row's statement (the work); the ties are given (YtchdagdmbjpmcaaDoorTie.lean); close each card by the builder's one call (the guide's Derived/Test/ToyasCard.lean, 'card_holds'). Laid BY PROGRAM, IN A SANDBOX (cutbox-door.mjs). By AI agents, Wed Nov 11 2026. No macro, syntax, notation, axiom, sorry.
-/
import Derived.Test.YtchdagdmbjpmcaaDoorRows
import GoSem.ClaimSeven
namespace Go.Proofs.YtchdagdmbjpmcaaDoor
namespace Rows

/-- THE TIED CARD OF 'interpreterlaw10.ClassWords'. -/
def classWordsCard : Claim7 := { stood := { row := classWordsRow, standIns := [], harness := (true, "bf221cebf586202e857abcf7884503a7ead3cdcf792b7cbcf85244dca0561d92"), looks := false }, kinds := [], alts := [], laidByText := true, laidKinds := [.data, .data, .data], laidTests := true, laidLooks := .later }
def ClassWordsCardSaid : Prop := Claim7.holds Tryd.pinned (.plain (OpenSpec.ofChange classWordsSpec)) classWordsCard

/-- THE TIED CARD OF 'interpreterlaw11.EamKnown'. -/
def eamKnownCard : Claim7 := { stood := { row := eamKnownRow, standIns := [], harness := (true, "bf221cebf586202e857abcf7884503a7ead3cdcf792b7cbcf85244dca0561d92"), looks := false }, kinds := [], alts := [], laidByText := true, laidKinds := [.data, .data], laidTests := true, laidLooks := .later }
def EamKnownCardSaid : Prop := Claim7.holds Tryd.pinned (.plain (OpenSpec.ofChange eamKnownSpec)) eamKnownCard

/-- THE TIED CARD OF 'interpreterlaw11.EamPlays'. -/
def eamPlaysCard : Claim7 := { stood := { row := eamPlaysRow, standIns := [], harness := (true, "bf221cebf586202e857abcf7884503a7ead3cdcf792b7cbcf85244dca0561d92"), looks := false }, kinds := [], alts := [], laidByText := true, laidKinds := [.data, .data], laidTests := true, laidLooks := .later }
def EamPlaysCardSaid : Prop := Claim7.holds Tryd.pinned (.plain (OpenSpec.ofChange eamPlaysSpec)) eamPlaysCard

/-- THE TIED CARD OF 'interpreterlaw11.EamNobody'. -/
def eamNobodyCard : Claim7 := { stood := { row := eamNobodyRow, standIns := [], harness := (true, "bf221cebf586202e857abcf7884503a7ead3cdcf792b7cbcf85244dca0561d92"), looks := false }, kinds := [], alts := [], laidByText := true, laidKinds := [.data, .data], laidTests := true, laidLooks := .later }
def EamNobodyCardSaid : Prop := Claim7.holds Tryd.pinned (.plain (OpenSpec.ofChange eamNobodySpec)) eamNobodyCard

/-- THE TIED CARD OF 'interpreterlaw11.EamBack'. -/
def eamBackCard : Claim7 := { stood := { row := eamBackRow, standIns := [], harness := (true, "bf221cebf586202e857abcf7884503a7ead3cdcf792b7cbcf85244dca0561d92"), looks := false }, kinds := [], alts := [], laidByText := true, laidKinds := [.data, .data], laidTests := true, laidLooks := .later }
def EamBackCardSaid : Prop := Claim7.holds Tryd.pinned (.plain (OpenSpec.ofChange eamBackSpec)) eamBackCard

/-- THE TIED CARD OF 'interpreterlaw11.EamAnew'. -/
def eamAnewCard : Claim7 := { stood := { row := eamAnewRow, standIns := [], harness := (true, "bf221cebf586202e857abcf7884503a7ead3cdcf792b7cbcf85244dca0561d92"), looks := false }, kinds := [], alts := [], laidByText := true, laidKinds := [.data, .data], laidTests := true, laidLooks := .later }
def EamAnewCardSaid : Prop := Claim7.holds Tryd.pinned (.plain (OpenSpec.ofChange eamAnewSpec)) eamAnewCard

/-- THE TIED CARD OF 'interpreterlaw11.EamTurned'. -/
def eamTurnedCard : Claim7 := { stood := { row := eamTurnedRow, standIns := [], harness := (true, "bf221cebf586202e857abcf7884503a7ead3cdcf792b7cbcf85244dca0561d92"), looks := false }, kinds := [], alts := [], laidByText := true, laidKinds := [.data, .data], laidTests := true, laidLooks := .later }
def EamTurnedCardSaid : Prop := Claim7.holds Tryd.pinned (.plain (OpenSpec.ofChange eamTurnedSpec)) eamTurnedCard

/-- THE SECOND FORM's CARD OF 'interpreterlaw10.ClassWords'. -/
def classWordsUptoCard : Claim7 := { stood := { row := classWordsUptoRow, standIns := [], harness := (true, "bf221cebf586202e857abcf7884503a7ead3cdcf792b7cbcf85244dca0561d92"), looks := false }, kinds := [], alts := [], laidByText := true, laidKinds := [.data, .data, .data], laidTests := true, laidLooks := .later }
def ClassWordsUptoCardSaid : Prop := Claim7.holds Tryd.pinned (.plain (OpenSpec.upto classWordsSpec)) classWordsUptoCard

/-- THE SECOND FORM's CARD OF 'interpreterlaw11.EamKnown'. -/
def eamKnownUptoCard : Claim7 := { stood := { row := eamKnownUptoRow, standIns := [], harness := (true, "bf221cebf586202e857abcf7884503a7ead3cdcf792b7cbcf85244dca0561d92"), looks := false }, kinds := [], alts := [], laidByText := true, laidKinds := [.data, .data], laidTests := true, laidLooks := .later }
def EamKnownUptoCardSaid : Prop := Claim7.holds Tryd.pinned (.plain (OpenSpec.upto eamKnownSpec)) eamKnownUptoCard

/-- THE SECOND FORM's CARD OF 'interpreterlaw11.EamPlays'. -/
def eamPlaysUptoCard : Claim7 := { stood := { row := eamPlaysUptoRow, standIns := [], harness := (true, "bf221cebf586202e857abcf7884503a7ead3cdcf792b7cbcf85244dca0561d92"), looks := false }, kinds := [], alts := [], laidByText := true, laidKinds := [.data, .data], laidTests := true, laidLooks := .later }
def EamPlaysUptoCardSaid : Prop := Claim7.holds Tryd.pinned (.plain (OpenSpec.upto eamPlaysSpec)) eamPlaysUptoCard

/-- THE SECOND FORM's CARD OF 'interpreterlaw11.EamNobody'. -/
def eamNobodyUptoCard : Claim7 := { stood := { row := eamNobodyUptoRow, standIns := [], harness := (true, "bf221cebf586202e857abcf7884503a7ead3cdcf792b7cbcf85244dca0561d92"), looks := false }, kinds := [], alts := [], laidByText := true, laidKinds := [.data, .data], laidTests := true, laidLooks := .later }
def EamNobodyUptoCardSaid : Prop := Claim7.holds Tryd.pinned (.plain (OpenSpec.upto eamNobodySpec)) eamNobodyUptoCard

/-- THE SECOND FORM's CARD OF 'interpreterlaw11.EamBack'. -/
def eamBackUptoCard : Claim7 := { stood := { row := eamBackUptoRow, standIns := [], harness := (true, "bf221cebf586202e857abcf7884503a7ead3cdcf792b7cbcf85244dca0561d92"), looks := false }, kinds := [], alts := [], laidByText := true, laidKinds := [.data, .data], laidTests := true, laidLooks := .later }
def EamBackUptoCardSaid : Prop := Claim7.holds Tryd.pinned (.plain (OpenSpec.upto eamBackSpec)) eamBackUptoCard

/-- THE SECOND FORM's CARD OF 'interpreterlaw11.EamAnew'. -/
def eamAnewUptoCard : Claim7 := { stood := { row := eamAnewUptoRow, standIns := [], harness := (true, "bf221cebf586202e857abcf7884503a7ead3cdcf792b7cbcf85244dca0561d92"), looks := false }, kinds := [], alts := [], laidByText := true, laidKinds := [.data, .data], laidTests := true, laidLooks := .later }
def EamAnewUptoCardSaid : Prop := Claim7.holds Tryd.pinned (.plain (OpenSpec.upto eamAnewSpec)) eamAnewUptoCard

/-- THE SECOND FORM's CARD OF 'interpreterlaw11.EamTurned'. -/
def eamTurnedUptoCard : Claim7 := { stood := { row := eamTurnedUptoRow, standIns := [], harness := (true, "bf221cebf586202e857abcf7884503a7ead3cdcf792b7cbcf85244dca0561d92"), looks := false }, kinds := [], alts := [], laidByText := true, laidKinds := [.data, .data], laidTests := true, laidLooks := .later }
def EamTurnedUptoCardSaid : Prop := Claim7.holds Tryd.pinned (.plain (OpenSpec.upto eamTurnedSpec)) eamTurnedUptoCard
end Rows
end Go.Proofs.YtchdagdmbjpmcaaDoor
