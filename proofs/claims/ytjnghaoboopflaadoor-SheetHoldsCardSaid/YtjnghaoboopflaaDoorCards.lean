/-
  DERIVED. GIVEN WITH THE SEED: THE CARDS: each row of YtjnghaoboopflaaDoorRows.lean that lists a variable, with what it lists TIED to the program's text (the seventh form; the later family's looks); each row that meets fmt, with fmt's text TOLD by the authors' own Lean function (tested against real Go, not proved from fmt's source: count such statements apart). THE CARD IS WHAT COUNTS. Prove the row's statement (the work); the ties are given (YtjnghaoboopflaaDoorTie.lean); close each card by the builder's one call (the guide's Derived/Test/ToyasCard.lean, 'card_holds'). Laid BY PROGRAM, IN A SANDBOX (cutbox-door.mjs). By AI agents, Wed Nov 11 2026. No macro, syntax, notation, axiom, sorry.
-/
import Derived.Test.YtjnghaoboopflaaDoorRows
import GoSem.ClaimSeven
namespace Go.Proofs.YtjnghaoboopflaaDoor
namespace Rows

/-- THE TIED CARD OF 'scrollbacklaw07.SheetPlays'. -/
def sheetPlaysCard : Claim7 := { stood := { row := sheetPlaysRow, standIns := [], harness := (true, "3790fbc28dae98d5756b10d849b02507e54e994ac1bf16be12dfce04507f0de3"), looks := false }, kinds := [], alts := [], laidByText := true, laidKinds := [.data, .data], laidTests := true, laidLooks := .later }
def SheetPlaysCardSaid : Prop := Claim7.holds Tryd.pinned (.plain (OpenSpec.ofChange sheetPlaysSpec)) sheetPlaysCard

/-- THE TIED CARD OF 'scrollbacklaw07.SheetFulls'. -/
def sheetFullsCard : Claim7 := { stood := { row := sheetFullsRow, standIns := [], harness := (true, "3790fbc28dae98d5756b10d849b02507e54e994ac1bf16be12dfce04507f0de3"), looks := false }, kinds := [], alts := [], laidByText := true, laidKinds := [.data, .data], laidTests := true, laidLooks := .later }
def SheetFullsCardSaid : Prop := Claim7.holds Tryd.pinned (.plain (OpenSpec.ofChange sheetFullsSpec)) sheetFullsCard

/-- THE TIED CARD OF 'scrollbacklaw07.SheetNil'. -/
def sheetNilCard : Claim7 := { stood := { row := sheetNilRow, standIns := [], harness := (true, "3790fbc28dae98d5756b10d849b02507e54e994ac1bf16be12dfce04507f0de3"), looks := false }, kinds := [], alts := [], laidByText := true, laidKinds := [.data, .data], laidTests := true, laidLooks := .later }
def SheetNilCardSaid : Prop := Claim7.holds Tryd.pinned (.plain (OpenSpec.ofChange sheetNilSpec)) sheetNilCard

/-- THE TIED CARD OF 'scrollbacklaw07.SheetHolds'. -/
def sheetHoldsCard : Claim7 := { stood := { row := sheetHoldsRow, standIns := [], harness := (true, "3790fbc28dae98d5756b10d849b02507e54e994ac1bf16be12dfce04507f0de3"), looks := false }, kinds := [], alts := [], laidByText := true, laidKinds := [.data, .data], laidTests := true, laidLooks := .later }
def SheetHoldsCardSaid : Prop := Claim7.holds Tryd.pinned (.plain (OpenSpec.ofChange sheetHoldsSpec)) sheetHoldsCard

/-- THE SECOND FORM's CARD OF 'scrollbacklaw07.SheetPlays'. -/
def sheetPlaysUptoCard : Claim7 := { stood := { row := sheetPlaysUptoRow, standIns := [], harness := (true, "3790fbc28dae98d5756b10d849b02507e54e994ac1bf16be12dfce04507f0de3"), looks := false }, kinds := [], alts := [], laidByText := true, laidKinds := [.data, .data], laidTests := true, laidLooks := .later }
def SheetPlaysUptoCardSaid : Prop := Claim7.holds Tryd.pinned (.plain (OpenSpec.upto sheetPlaysSpec)) sheetPlaysUptoCard

/-- THE SECOND FORM's CARD OF 'scrollbacklaw07.SheetFulls'. -/
def sheetFullsUptoCard : Claim7 := { stood := { row := sheetFullsUptoRow, standIns := [], harness := (true, "3790fbc28dae98d5756b10d849b02507e54e994ac1bf16be12dfce04507f0de3"), looks := false }, kinds := [], alts := [], laidByText := true, laidKinds := [.data, .data], laidTests := true, laidLooks := .later }
def SheetFullsUptoCardSaid : Prop := Claim7.holds Tryd.pinned (.plain (OpenSpec.upto sheetFullsSpec)) sheetFullsUptoCard

/-- THE SECOND FORM's CARD OF 'scrollbacklaw07.SheetNil'. -/
def sheetNilUptoCard : Claim7 := { stood := { row := sheetNilUptoRow, standIns := [], harness := (true, "3790fbc28dae98d5756b10d849b02507e54e994ac1bf16be12dfce04507f0de3"), looks := false }, kinds := [], alts := [], laidByText := true, laidKinds := [.data, .data], laidTests := true, laidLooks := .later }
def SheetNilUptoCardSaid : Prop := Claim7.holds Tryd.pinned (.plain (OpenSpec.upto sheetNilSpec)) sheetNilUptoCard

/-- THE SECOND FORM's CARD OF 'scrollbacklaw07.SheetHolds'. -/
def sheetHoldsUptoCard : Claim7 := { stood := { row := sheetHoldsUptoRow, standIns := [], harness := (true, "3790fbc28dae98d5756b10d849b02507e54e994ac1bf16be12dfce04507f0de3"), looks := false }, kinds := [], alts := [], laidByText := true, laidKinds := [.data, .data], laidTests := true, laidLooks := .later }
def SheetHoldsUptoCardSaid : Prop := Claim7.holds Tryd.pinned (.plain (OpenSpec.upto sheetHoldsSpec)) sheetHoldsUptoCard
end Rows
end Go.Proofs.YtjnghaoboopflaaDoor
