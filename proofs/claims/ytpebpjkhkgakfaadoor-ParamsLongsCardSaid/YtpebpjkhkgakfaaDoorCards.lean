/-
  DERIVED. GIVEN WITH THE SEED: THE CARDS: each row of YtpebpjkhkgakfaaDoorRows.lean that lists a variable, with what it lists TIED to the program's text (the seventh form; the later family's looks); each row that meets fmt, with fmt's text TOLD by the authors' own Lean function (tested against real Go, not proved from fmt's source: count such statements apart). THE CARD IS WHAT COUNTS. Prove the row's statement (the work); the ties are given (YtpebpjkhkgakfaaDoorTie.lean); close each card by the builder's one call (the guide's Derived/Test/ToyasCard.lean, 'card_holds'). Laid BY PROGRAM, IN A SANDBOX (cutbox-door.mjs). By AI agents, Wed Nov 11 2026. No macro, syntax, notation, axiom, sorry.
-/
import Derived.Test.YtpebpjkhkgakfaaDoorRows
import GoSem.ClaimSeven
namespace Go.Proofs.YtpebpjkhkgakfaaDoor
namespace Rows

/-- THE TIED CARD OF 'scrollbacklaw10.ParamsGets'. -/
def paramsGetsCard : Claim7 := { stood := { row := paramsGetsRow, standIns := [], harness := (true, "295623486bba9e90eb21efd6cf7c61e876d892cf8c42f4ede6f0f24d974ffb73"), looks := false }, kinds := [], alts := [], laidByText := true, laidKinds := [.data, .data, .data], laidTests := true, laidLooks := .later }
def ParamsGetsCardSaid : Prop := Claim7.holds Tryd.pinned (.plain (OpenSpec.ofChange paramsGetsSpec)) paramsGetsCard

/-- THE TIED CARD OF 'scrollbacklaw10.ParamsTexts'. -/
def paramsTextsCard : Claim7 := { stood := { row := paramsTextsRow, standIns := [], harness := (true, "295623486bba9e90eb21efd6cf7c61e876d892cf8c42f4ede6f0f24d974ffb73"), looks := false }, kinds := [], alts := [], laidByText := true, laidKinds := [.data, .data, .data], laidTests := true, laidLooks := .later }
def ParamsTextsCardSaid : Prop := Claim7.holds Tryd.pinned (.plain (OpenSpec.ofChange paramsTextsSpec)) paramsTextsCard

/-- THE TIED CARD OF 'scrollbacklaw10.ParamsBuilds'. -/
def paramsBuildsCard : Claim7 := { stood := { row := paramsBuildsRow, standIns := [], harness := (true, "295623486bba9e90eb21efd6cf7c61e876d892cf8c42f4ede6f0f24d974ffb73"), looks := false }, kinds := [], alts := [], laidByText := true, laidKinds := [.data, .data, .data], laidTests := true, laidLooks := .later }
def ParamsBuildsCardSaid : Prop := Claim7.holds Tryd.pinned (.plain (OpenSpec.ofChange paramsBuildsSpec)) paramsBuildsCard

/-- THE TIED CARD OF 'scrollbacklaw10.ParamsLongs'. -/
def paramsLongsCard : Claim7 := { stood := { row := paramsLongsRow, standIns := [], harness := (true, "295623486bba9e90eb21efd6cf7c61e876d892cf8c42f4ede6f0f24d974ffb73"), looks := false }, kinds := [], alts := [], laidByText := true, laidKinds := [.data, .data, .data], laidTests := true, laidLooks := .later }
def ParamsLongsCardSaid : Prop := Claim7.holds Tryd.pinned (.plain (OpenSpec.ofChange paramsLongsSpec)) paramsLongsCard

/-- THE TIED CARD OF 'scrollbacklaw10.ParamsNil'. -/
def paramsNilCard : Claim7 := { stood := { row := paramsNilRow, standIns := [], harness := (true, "295623486bba9e90eb21efd6cf7c61e876d892cf8c42f4ede6f0f24d974ffb73"), looks := false }, kinds := [], alts := [], laidByText := true, laidKinds := [.data, .data, .data], laidTests := true, laidLooks := .later }
def ParamsNilCardSaid : Prop := Claim7.holds Tryd.pinned (.plain (OpenSpec.ofChange paramsNilSpec)) paramsNilCard

/-- THE TIED CARD OF 'scrollbacklaw10.ParamsHolds'. -/
def paramsHoldsCard : Claim7 := { stood := { row := paramsHoldsRow, standIns := [], harness := (true, "295623486bba9e90eb21efd6cf7c61e876d892cf8c42f4ede6f0f24d974ffb73"), looks := false }, kinds := [], alts := [], laidByText := true, laidKinds := [.data, .data, .data], laidTests := true, laidLooks := .later }
def ParamsHoldsCardSaid : Prop := Claim7.holds Tryd.pinned (.plain (OpenSpec.ofChange paramsHoldsSpec)) paramsHoldsCard

/-- THE SECOND FORM's CARD OF 'scrollbacklaw10.ParamsGets'. -/
def paramsGetsUptoCard : Claim7 := { stood := { row := paramsGetsUptoRow, standIns := [], harness := (true, "295623486bba9e90eb21efd6cf7c61e876d892cf8c42f4ede6f0f24d974ffb73"), looks := false }, kinds := [], alts := [], laidByText := true, laidKinds := [.data, .data, .data], laidTests := true, laidLooks := .later }
def ParamsGetsUptoCardSaid : Prop := Claim7.holds Tryd.pinned (.plain (OpenSpec.upto paramsGetsSpec)) paramsGetsUptoCard

/-- THE SECOND FORM's CARD OF 'scrollbacklaw10.ParamsTexts'. -/
def paramsTextsUptoCard : Claim7 := { stood := { row := paramsTextsUptoRow, standIns := [], harness := (true, "295623486bba9e90eb21efd6cf7c61e876d892cf8c42f4ede6f0f24d974ffb73"), looks := false }, kinds := [], alts := [], laidByText := true, laidKinds := [.data, .data, .data], laidTests := true, laidLooks := .later }
def ParamsTextsUptoCardSaid : Prop := Claim7.holds Tryd.pinned (.plain (OpenSpec.upto paramsTextsSpec)) paramsTextsUptoCard

/-- THE SECOND FORM's CARD OF 'scrollbacklaw10.ParamsBuilds'. -/
def paramsBuildsUptoCard : Claim7 := { stood := { row := paramsBuildsUptoRow, standIns := [], harness := (true, "295623486bba9e90eb21efd6cf7c61e876d892cf8c42f4ede6f0f24d974ffb73"), looks := false }, kinds := [], alts := [], laidByText := true, laidKinds := [.data, .data, .data], laidTests := true, laidLooks := .later }
def ParamsBuildsUptoCardSaid : Prop := Claim7.holds Tryd.pinned (.plain (OpenSpec.upto paramsBuildsSpec)) paramsBuildsUptoCard

/-- THE SECOND FORM's CARD OF 'scrollbacklaw10.ParamsLongs'. -/
def paramsLongsUptoCard : Claim7 := { stood := { row := paramsLongsUptoRow, standIns := [], harness := (true, "295623486bba9e90eb21efd6cf7c61e876d892cf8c42f4ede6f0f24d974ffb73"), looks := false }, kinds := [], alts := [], laidByText := true, laidKinds := [.data, .data, .data], laidTests := true, laidLooks := .later }
def ParamsLongsUptoCardSaid : Prop := Claim7.holds Tryd.pinned (.plain (OpenSpec.upto paramsLongsSpec)) paramsLongsUptoCard

/-- THE SECOND FORM's CARD OF 'scrollbacklaw10.ParamsNil'. -/
def paramsNilUptoCard : Claim7 := { stood := { row := paramsNilUptoRow, standIns := [], harness := (true, "295623486bba9e90eb21efd6cf7c61e876d892cf8c42f4ede6f0f24d974ffb73"), looks := false }, kinds := [], alts := [], laidByText := true, laidKinds := [.data, .data, .data], laidTests := true, laidLooks := .later }
def ParamsNilUptoCardSaid : Prop := Claim7.holds Tryd.pinned (.plain (OpenSpec.upto paramsNilSpec)) paramsNilUptoCard

/-- THE SECOND FORM's CARD OF 'scrollbacklaw10.ParamsHolds'. -/
def paramsHoldsUptoCard : Claim7 := { stood := { row := paramsHoldsUptoRow, standIns := [], harness := (true, "295623486bba9e90eb21efd6cf7c61e876d892cf8c42f4ede6f0f24d974ffb73"), looks := false }, kinds := [], alts := [], laidByText := true, laidKinds := [.data, .data, .data], laidTests := true, laidLooks := .later }
def ParamsHoldsUptoCardSaid : Prop := Claim7.holds Tryd.pinned (.plain (OpenSpec.upto paramsHoldsSpec)) paramsHoldsUptoCard
end Rows
end Go.Proofs.YtpebpjkhkgakfaaDoor
