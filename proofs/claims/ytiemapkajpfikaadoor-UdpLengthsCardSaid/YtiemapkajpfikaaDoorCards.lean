/-
  DERIVED. GIVEN WITH THE SEED: THE CARDS: each row of YtiemapkajpfikaaDoorRows.lean that lists a variable, with what it lists TIED to the program's text (the seventh form; the later family's looks); each row that meets fmt, with fmt's text TOLD by the authors' own Lean function (tested against real Go, not proved from fmt's source: count such statements apart). THE CARD IS WHAT COUNTS. Prove the row's statement (the work); the ties are given (YtiemapkajpfikaaDoorTie.lean); close each card by the builder's one call (the guide's Derived/Test/ToyasCard.lean, 'card_holds'). Laid BY PROGRAM, IN A SANDBOX (cutbox-door.mjs). By AI agents, Wed Nov 11 2026. No macro, syntax, notation, axiom, sorry.
-/
import Derived.Test.YtiemapkajpfikaaDoorRows
import GoSem.ClaimSeven
namespace Go.Proofs.YtiemapkajpfikaaDoor
namespace Rows

/-- THE TIED CARD OF 'interpreterlaw05.UdpLengths'. -/
def udpLengthsCard : Claim7 := { stood := { row := udpLengthsRow, standIns := [], harness := (true, "388a76b9924efebb2d5a711ff02391e2c9df517804d35bd91d5c02b868371dc5"), looks := true }, kinds := [], alts := [], laidByText := true, laidKinds := [.handle], laidTests := true, laidLooks := .later }
def UdpLengthsCardSaid : Prop := Claim7.holds Tryd.pinned (.plain (OpenSpec.ofChange udpLengthsSpec)) udpLengthsCard

/-- THE SECOND FORM's CARD OF 'interpreterlaw05.UdpLengths'. -/
def udpLengthsUptoCard : Claim7 := { stood := { row := udpLengthsUptoRow, standIns := [], harness := (true, "388a76b9924efebb2d5a711ff02391e2c9df517804d35bd91d5c02b868371dc5"), looks := true }, kinds := [], alts := [], laidByText := true, laidKinds := [.handle], laidTests := true, laidLooks := .later }
def UdpLengthsUptoCardSaid : Prop := Claim7.holds Tryd.pinned (.plain (OpenSpec.upto udpLengthsSpec)) udpLengthsUptoCard
end Rows
end Go.Proofs.YtiemapkajpfikaaDoor
