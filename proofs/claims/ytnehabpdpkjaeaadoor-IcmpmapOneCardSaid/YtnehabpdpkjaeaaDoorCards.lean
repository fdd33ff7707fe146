/-
  DERIVED. GIVEN WITH THE SEED: THE CARDS: each row of YtnehabpdpkjaeaaDoorRows.lean that lists a variable, with what it lists TIED to the program's text (the seventh form; the later family's looks); each row that meets fmt, with fmt's text TOLD by the authors' own Lean function (tested against real Go, not proved from fmt's source: count such statements apart). THE CARD IS WHAT COUNTS. Prove the row's statement (the work); the ties are given (YtnehabpdpkjaeaaDoorTie.lean); close each card by the builder's one call (the guide's Derived/Test/ToyasCard.lean, 'card_holds'). Laid BY PROGRAM, IN A SANDBOX (cutbox-door.mjs). By AI agents, Wed Nov 11 2026. No macro, syntax, notation, axiom, sorry.
-/
import Derived.Test.YtnehabpdpkjaeaaDoorRows
import GoSem.ClaimSeven
namespace Go.Proofs.YtnehabpdpkjaeaaDoor
namespace Rows

/-- THE TIED CARD OF 'interpreterlaw14.IcmpmapKnown'. -/
def icmpmapKnownCard : Claim7 := { stood := { row := icmpmapKnownRow, standIns := [], harness := (true, "18aff212946c457320f689efa8ccb4bf781daf8a75ebaa6e9e28c9bef9b4042a"), looks := false }, kinds := [], alts := [], laidByText := true, laidKinds := [.data], laidTests := true, laidLooks := .later }
def IcmpmapKnownCardSaid : Prop := Claim7.holds Tryd.pinned (.plain (OpenSpec.ofChange icmpmapKnownSpec)) icmpmapKnownCard

/-- THE TIED CARD OF 'interpreterlaw14.IcmpmapSays'. -/
def icmpmapSaysCard : Claim7 := { stood := { row := icmpmapSaysRow, standIns := [], harness := (true, "18aff212946c457320f689efa8ccb4bf781daf8a75ebaa6e9e28c9bef9b4042a"), looks := false }, kinds := [], alts := [], laidByText := true, laidKinds := [.data], laidTests := true, laidLooks := .later }
def IcmpmapSaysCardSaid : Prop := Claim7.holds Tryd.pinned (.plain (OpenSpec.ofChange icmpmapSaysSpec)) icmpmapSaysCard

/-- THE TIED CARD OF 'interpreterlaw14.IcmpmapAll'. -/
def icmpmapAllCard : Claim7 := { stood := { row := icmpmapAllRow, standIns := [], harness := (true, "18aff212946c457320f689efa8ccb4bf781daf8a75ebaa6e9e28c9bef9b4042a"), looks := false }, kinds := [], alts := [], laidByText := true, laidKinds := [.data], laidTests := true, laidLooks := .later }
def IcmpmapAllCardSaid : Prop := Claim7.holds Tryd.pinned (.plain (OpenSpec.ofChange icmpmapAllSpec)) icmpmapAllCard

/-- THE TIED CARD OF 'interpreterlaw14.IcmpmapOne'. -/
def icmpmapOneCard : Claim7 := { stood := { row := icmpmapOneRow, standIns := [], harness := (true, "18aff212946c457320f689efa8ccb4bf781daf8a75ebaa6e9e28c9bef9b4042a"), looks := false }, kinds := [], alts := [], laidByText := true, laidKinds := [.data], laidTests := true, laidLooks := .later }
def IcmpmapOneCardSaid : Prop := Claim7.holds Tryd.pinned (.plain (OpenSpec.ofChange icmpmapOneSpec)) icmpmapOneCard

/-- THE TIED CARD OF 'interpreterlaw14.IcmpmapBack'. -/
def icmpmapBackCard : Claim7 := { stood := { row := icmpmapBackRow, standIns := [], harness := (true, "18aff212946c457320f689efa8ccb4bf781daf8a75ebaa6e9e28c9bef9b4042a"), looks := false }, kinds := [], alts := [], laidByText := true, laidKinds := [.data], laidTests := true, laidLooks := .later }
def IcmpmapBackCardSaid : Prop := Claim7.holds Tryd.pinned (.plain (OpenSpec.ofChange icmpmapBackSpec)) icmpmapBackCard

/-- THE TIED CARD OF 'interpreterlaw14.IcmpmapPlateau'. -/
def icmpmapPlateauCard : Claim7 := { stood := { row := icmpmapPlateauRow, standIns := [], harness := (true, "18aff212946c457320f689efa8ccb4bf781daf8a75ebaa6e9e28c9bef9b4042a"), looks := false }, kinds := [], alts := [], laidByText := true, laidKinds := [.data], laidTests := true, laidLooks := .later }
def IcmpmapPlateauCardSaid : Prop := Claim7.holds Tryd.pinned (.plain (OpenSpec.ofChange icmpmapPlateauSpec)) icmpmapPlateauCard

/-- THE TIED CARD OF 'interpreterlaw14.IcmpmapMtus'. -/
def icmpmapMtusCard : Claim7 := { stood := { row := icmpmapMtusRow, standIns := [], harness := (true, "18aff212946c457320f689efa8ccb4bf781daf8a75ebaa6e9e28c9bef9b4042a"), looks := false }, kinds := [], alts := [], laidByText := true, laidKinds := [.data], laidTests := true, laidLooks := .later }
def IcmpmapMtusCardSaid : Prop := Claim7.holds Tryd.pinned (.plain (OpenSpec.ofChange icmpmapMtusSpec)) icmpmapMtusCard

/-- THE TIED CARD OF 'interpreterlaw14.IcmpmapData'. -/
def icmpmapDataCard : Claim7 := { stood := { row := icmpmapDataRow, standIns := [], harness := (true, "18aff212946c457320f689efa8ccb4bf781daf8a75ebaa6e9e28c9bef9b4042a"), looks := false }, kinds := [], alts := [], laidByText := true, laidKinds := [.data], laidTests := true, laidLooks := .later }
def IcmpmapDataCardSaid : Prop := Claim7.holds Tryd.pinned (.plain (OpenSpec.ofChange icmpmapDataSpec)) icmpmapDataCard

/-- THE SECOND FORM's CARD OF 'interpreterlaw14.IcmpmapKnown'. -/
def icmpmapKnownUptoCard : Claim7 := { stood := { row := icmpmapKnownUptoRow, standIns := [], harness := (true, "18aff212946c457320f689efa8ccb4bf781daf8a75ebaa6e9e28c9bef9b4042a"), looks := false }, kinds := [], alts := [], laidByText := true, laidKinds := [.data], laidTests := true, laidLooks := .later }
def IcmpmapKnownUptoCardSaid : Prop := Claim7.holds Tryd.pinned (.plain (OpenSpec.upto icmpmapKnownSpec)) icmpmapKnownUptoCard

/-- THE SECOND FORM's CARD OF 'interpreterlaw14.IcmpmapSays'. -/
def icmpmapSaysUptoCard : Claim7 := { stood := { row := icmpmapSaysUptoRow, standIns := [], harness := (true, "18aff212946c457320f689efa8ccb4bf781daf8a75ebaa6e9e28c9bef9b4042a"), looks := false }, kinds := [], alts := [], laidByText := true, laidKinds := [.data], laidTests := true, laidLooks := .later }
def IcmpmapSaysUptoCardSaid : Prop := Claim7.holds Tryd.pinned (.plain (OpenSpec.upto icmpmapSaysSpec)) icmpmapSaysUptoCard

/-- THE SECOND FORM's CARD OF 'interpreterlaw14.IcmpmapAll'. -/
def icmpmapAllUptoCard : Claim7 := { stood := { row := icmpmapAllUptoRow, standIns := [], harness := (true, "18aff212946c457320f689efa8ccb4bf781daf8a75ebaa6e9e28c9bef9b4042a"), looks := false }, kinds := [], alts := [], laidByText := true, laidKinds := [.data], laidTests := true, laidLooks := .later }
def IcmpmapAllUptoCardSaid : Prop := Claim7.holds Tryd.pinned (.plain (OpenSpec.upto icmpmapAllSpec)) icmpmapAllUptoCard

/-- THE SECOND FORM's CARD OF 'interpreterlaw14.IcmpmapOne'. -/
def icmpmapOneUptoCard : Claim7 := { stood := { row := icmpmapOneUptoRow, standIns := [], harness := (true, "18aff212946c457320f689efa8ccb4bf781daf8a75ebaa6e9e28c9bef9b4042a"), looks := false }, kinds := [], alts := [], laidByText := true, laidKinds := [.data], laidTests := true, laidLooks := .later }
def IcmpmapOneUptoCardSaid : Prop := Claim7.holds Tryd.pinned (.plain (OpenSpec.upto icmpmapOneSpec)) icmpmapOneUptoCard

/-- THE SECOND FORM's CARD OF 'interpreterlaw14.IcmpmapBack'. -/
def icmpmapBackUptoCard : Claim7 := { stood := { row := icmpmapBackUptoRow, standIns := [], harness := (true, "18aff212946c457320f689efa8ccb4bf781daf8a75ebaa6e9e28c9bef9b4042a"), looks := false }, kinds := [], alts := [], laidByText := true, laidKinds := [.data], laidTests := true, laidLooks := .later }
def IcmpmapBackUptoCardSaid : Prop := Claim7.holds Tryd.pinned (.plain (OpenSpec.upto icmpmapBackSpec)) icmpmapBackUptoCard

/-- THE SECOND FORM's CARD OF 'interpreterlaw14.IcmpmapPlateau'. -/
def icmpmapPlateauUptoCard : Claim7 := { stood := { row := icmpmapPlateauUptoRow, standIns := [], harness := (true, "18aff212946c457320f689efa8ccb4bf781daf8a75ebaa6e9e28c9bef9b4042a"), looks := false }, kinds := [], alts := [], laidByText := true, laidKinds := [.data], laidTests := true, laidLooks := .later }
def IcmpmapPlateauUptoCardSaid : Prop := Claim7.holds Tryd.pinned (.plain (OpenSpec.upto icmpmapPlateauSpec)) icmpmapPlateauUptoCard

/-- THE SECOND FORM's CARD OF 'interpreterlaw14.IcmpmapMtus'. -/
def icmpmapMtusUptoCard : Claim7 := { stood := { row := icmpmapMtusUptoRow, standIns := [], harness := (true, "18aff212946c457320f689efa8ccb4bf781daf8a75ebaa6e9e28c9bef9b4042a"), looks := false }, kinds := [], alts := [], laidByText := true, laidKinds := [.data], laidTests := true, laidLooks := .later }
def IcmpmapMtusUptoCardSaid : Prop := Claim7.holds Tryd.pinned (.plain (OpenSpec.upto icmpmapMtusSpec)) icmpmapMtusUptoCard

/-- THE SECOND FORM's CARD OF 'interpreterlaw14.IcmpmapData'. -/
def icmpmapDataUptoCard : Claim7 := { stood := { row := icmpmapDataUptoRow, standIns := [], harness := (true, "18aff212946c457320f689efa8ccb4bf781daf8a75ebaa6e9e28c9bef9b4042a"), looks := false }, kinds := [], alts := [], laidByText := true, laidKinds := [.data], laidTests := true, laidLooks := .later }
def IcmpmapDataUptoCardSaid : Prop := Claim7.holds Tryd.pinned (.plain (OpenSpec.upto icmpmapDataSpec)) icmpmapDataUptoCard
end Rows
end Go.Proofs.YtnehabpdpkjaeaaDoor
