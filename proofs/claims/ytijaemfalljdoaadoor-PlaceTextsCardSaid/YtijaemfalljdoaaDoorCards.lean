/-
  DERIVED. GIVEN WITH THE SEED: THE CARDS: each row of YtijaemfalljdoaaDoorRows.lean that lists a variable, with what it lists TIED to the program's text (the seventh form; the later family's looks); each row that meets fmt, with fmt's text TOLD by the authors' own Lean function (tested against real Go, not proved from fmt's source: count such statements apart). THE CARD IS WHAT COUNTS. Prove the row's statement (the work); the ties are given (YtijaemfalljdoaaDoorTie.lean); close each card by the builder's one call (the guide's Derived/Test/ToyasCard.lean, 'card_holds'). Laid BY PROGRAM, IN A SANDBOX (cutbox-door.mjs). By AI agents, Wed Nov 11 2026. No macro, syntax, notation, axiom, sorry.
-/
import Derived.Test.YtijaemfalljdoaaDoorRows
import GoSem.ClaimSeven
namespace Go.Proofs.YtijaemfalljdoaaDoor
namespace Rows

/-- THE TIED CARD OF 'scrollbacklaw09.PlaceCompares'. -/
def placeComparesCard : Claim7 := { stood := { row := placeComparesRow, standIns := [], harness := (true, "a52e18fe1df4ff5763d2d480692fe06bf9d09809b321c5b58420ddc935958e88"), looks := true }, kinds := [], alts := [], laidByText := true, laidKinds := [.data, .data, .data, .sentinel, .sentinel], laidTests := true, laidLooks := .later }
def PlaceComparesCardSaid : Prop := Claim7.holds Tryd.pinned (.plain (OpenSpec.ofChange placeComparesSpec)) placeComparesCard

/-- THE TIED CARD OF 'scrollbacklaw09.PlaceClamps'. -/
def placeClampsCard : Claim7 := { stood := { row := placeClampsRow, standIns := [], harness := (true, "a52e18fe1df4ff5763d2d480692fe06bf9d09809b321c5b58420ddc935958e88"), looks := true }, kinds := [], alts := [], laidByText := true, laidKinds := [.data, .data, .data, .sentinel, .sentinel], laidTests := true, laidLooks := .later }
def PlaceClampsCardSaid : Prop := Claim7.holds Tryd.pinned (.plain (OpenSpec.ofChange placeClampsSpec)) placeClampsCard

/-- THE TIED CARD OF 'scrollbacklaw09.PlaceSteps'. -/
def placeStepsCard : Claim7 := { stood := { row := placeStepsRow, standIns := [], harness := (true, "a52e18fe1df4ff5763d2d480692fe06bf9d09809b321c5b58420ddc935958e88"), looks := true }, kinds := [], alts := [], laidByText := true, laidKinds := [.data, .data, .data, .sentinel, .sentinel], laidTests := true, laidLooks := .later }
def PlaceStepsCardSaid : Prop := Claim7.holds Tryd.pinned (.plain (OpenSpec.ofChange placeStepsSpec)) placeStepsCard

/-- THE TIED CARD OF 'scrollbacklaw09.PlaceTexts'. -/
def placeTextsCard : Claim7 := { stood := { row := placeTextsRow, standIns := [], harness := (true, "a52e18fe1df4ff5763d2d480692fe06bf9d09809b321c5b58420ddc935958e88"), looks := true }, kinds := [], alts := [], laidByText := true, laidKinds := [.data, .data, .data, .sentinel, .sentinel], laidTests := true, laidLooks := .later }
def PlaceTextsCardSaid : Prop := Claim7.holds Tryd.pinned (.plain (OpenSpec.ofChange placeTextsSpec)) placeTextsCard

/-- THE TIED CARD OF 'scrollbacklaw09.PlaceHolds'. -/
def placeHoldsCard : Claim7 := { stood := { row := placeHoldsRow, standIns := [], harness := (true, "a52e18fe1df4ff5763d2d480692fe06bf9d09809b321c5b58420ddc935958e88"), looks := true }, kinds := [], alts := [], laidByText := true, laidKinds := [.data, .data, .data, .sentinel, .sentinel], laidTests := true, laidLooks := .later }
def PlaceHoldsCardSaid : Prop := Claim7.holds Tryd.pinned (.plain (OpenSpec.ofChange placeHoldsSpec)) placeHoldsCard

/-- THE SECOND FORM's CARD OF 'scrollbacklaw09.PlaceCompares'. -/
def placeComparesUptoCard : Claim7 := { stood := { row := placeComparesUptoRow, standIns := [], harness := (true, "a52e18fe1df4ff5763d2d480692fe06bf9d09809b321c5b58420ddc935958e88"), looks := true }, kinds := [], alts := [], laidByText := true, laidKinds := [.data, .data, .data, .sentinel, .sentinel], laidTests := true, laidLooks := .later }
def PlaceComparesUptoCardSaid : Prop := Claim7.holds Tryd.pinned (.plain (OpenSpec.upto placeComparesSpec)) placeComparesUptoCard

/-- THE SECOND FORM's CARD OF 'scrollbacklaw09.PlaceClamps'. -/
def placeClampsUptoCard : Claim7 := { stood := { row := placeClampsUptoRow, standIns := [], harness := (true, "a52e18fe1df4ff5763d2d480692fe06bf9d09809b321c5b58420ddc935958e88"), looks := true }, kinds := [], alts := [], laidByText := true, laidKinds := [.data, .data, .data, .sentinel, .sentinel], laidTests := true, laidLooks := .later }
def PlaceClampsUptoCardSaid : Prop := Claim7.holds Tryd.pinned (.plain (OpenSpec.upto placeClampsSpec)) placeClampsUptoCard

/-- THE SECOND FORM's CARD OF 'scrollbacklaw09.PlaceSteps'. -/
def placeStepsUptoCard : Claim7 := { stood := { row := placeStepsUptoRow, standIns := [], harness := (true, "a52e18fe1df4ff5763d2d480692fe06bf9d09809b321c5b58420ddc935958e88"), looks := true }, kinds := [], alts := [], laidByText := true, laidKinds := [.data, .data, .data, .sentinel, .sentinel], laidTests := true, laidLooks := .later }
def PlaceStepsUptoCardSaid : Prop := Claim7.holds Tryd.pinned (.plain (OpenSpec.upto placeStepsSpec)) placeStepsUptoCard

/-- THE SECOND FORM's CARD OF 'scrollbacklaw09.PlaceTexts'. -/
def placeTextsUptoCard : Claim7 := { stood := { row := placeTextsUptoRow, standIns := [], harness := (true, "a52e18fe1df4ff5763d2d480692fe06bf9d09809b321c5b58420ddc935958e88"), looks := true }, kinds := [], alts := [], laidByText := true, laidKinds := [.data, .data, .data, .sentinel, .sentinel], laidTests := true, laidLooks := .later }
def PlaceTextsUptoCardSaid : Prop := Claim7.holds Tryd.pinned (.plain (OpenSpec.upto placeTextsSpec)) placeTextsUptoCard

/-- THE SECOND FORM's CARD OF 'scrollbacklaw09.PlaceHolds'. -/
def placeHoldsUptoCard : Claim7 := { stood := { row := placeHoldsUptoRow, standIns := [], harness := (true, "a52e18fe1df4ff5763d2d480692fe06bf9d09809b321c5b58420ddc935958e88"), looks := true }, kinds := [], alts := [], laidByText := true, laidKinds := [.data, .data, .data, .sentinel, .sentinel], laidTests := true, laidLooks := .later }
def PlaceHoldsUptoCardSaid : Prop := Claim7.holds Tryd.pinned (.plain (OpenSpec.upto placeHoldsSpec)) placeHoldsUptoCard
end Rows
end Go.Proofs.YtijaemfalljdoaaDoor
