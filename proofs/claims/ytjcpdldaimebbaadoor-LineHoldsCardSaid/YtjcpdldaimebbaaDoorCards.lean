/-
  DERIVED. GIVEN WITH THE SEED: THE CARDS: each row of YtjcpdldaimebbaaDoorRows.lean that lists a variable, with what it lists TIED to the program's text (the seventh form; the later family's looks); each row that meets fmt, with fmt's text TOLD by the authors' own Lean function (tested against real Go, not proved from fmt's source: count such statements apart). THE CARD IS WHAT COUNTS. Prove the row's statement (the work); the ties are given (YtjcpdldaimebbaaDoorTie.lean); close each card by the builder's one call (the guide's Derived/Test/ToyasCard.lean, 'card_holds'). Laid BY PROGRAM, IN A SANDBOX (cutbox-door.mjs). By AI agents, Wed Nov 11 2026. No macro, syntax, notation, axiom, sorry.
-/
import Derived.Test.YtjcpdldaimebbaaDoorRows
import GoSem.ClaimSeven
namespace Go.Proofs.YtjcpdldaimebbaaDoor
namespace Rows

/-- THE TIED CARD OF 'scrollbacklaw06.LineNew'. -/
def lineNewCard : Claim7 := { stood := { row := lineNewRow, standIns := [], harness := (true, "f69a7e5dbef6a58cb3b62c5a1f3ee84ba491b96bf3016fcf41af7e34eb5bd72d"), looks := false }, kinds := [], alts := [], laidByText := true, laidKinds := [.data, .data], laidTests := true, laidLooks := .later }
def LineNewCardSaid : Prop := Claim7.holds Tryd.pinned (.plain (OpenSpec.ofChange lineNewSpec)) lineNewCard

/-- THE TIED CARD OF 'scrollbacklaw06.LineLooks'. -/
def lineLooksCard : Claim7 := { stood := { row := lineLooksRow, standIns := [], harness := (true, "f69a7e5dbef6a58cb3b62c5a1f3ee84ba491b96bf3016fcf41af7e34eb5bd72d"), looks := false }, kinds := [], alts := [], laidByText := true, laidKinds := [.data, .data], laidTests := true, laidLooks := .later }
def LineLooksCardSaid : Prop := Claim7.holds Tryd.pinned (.plain (OpenSpec.ofChange lineLooksSpec)) lineLooksCard

/-- THE TIED CARD OF 'scrollbacklaw06.LineFits'. -/
def lineFitsCard : Claim7 := { stood := { row := lineFitsRow, standIns := [], harness := (true, "f69a7e5dbef6a58cb3b62c5a1f3ee84ba491b96bf3016fcf41af7e34eb5bd72d"), looks := false }, kinds := [], alts := [], laidByText := true, laidKinds := [.data, .data], laidTests := true, laidLooks := .later }
def LineFitsCardSaid : Prop := Claim7.holds Tryd.pinned (.plain (OpenSpec.ofChange lineFitsSpec)) lineFitsCard

/-- THE TIED CARD OF 'scrollbacklaw06.LinePuts'. -/
def linePutsCard : Claim7 := { stood := { row := linePutsRow, standIns := [], harness := (true, "f69a7e5dbef6a58cb3b62c5a1f3ee84ba491b96bf3016fcf41af7e34eb5bd72d"), looks := false }, kinds := [], alts := [], laidByText := true, laidKinds := [.data, .data], laidTests := true, laidLooks := .later }
def LinePutsCardSaid : Prop := Claim7.holds Tryd.pinned (.plain (OpenSpec.ofChange linePutsSpec)) linePutsCard

/-- THE TIED CARD OF 'scrollbacklaw06.LineLongs'. -/
def lineLongsCard : Claim7 := { stood := { row := lineLongsRow, standIns := [], harness := (true, "f69a7e5dbef6a58cb3b62c5a1f3ee84ba491b96bf3016fcf41af7e34eb5bd72d"), looks := false }, kinds := [], alts := [], laidByText := true, laidKinds := [.data, .data], laidTests := true, laidLooks := .later }
def LineLongsCardSaid : Prop := Claim7.holds Tryd.pinned (.plain (OpenSpec.ofChange lineLongsSpec)) lineLongsCard

/-- THE TIED CARD OF 'scrollbacklaw06.LineHolds'. -/
def lineHoldsCard : Claim7 := { stood := { row := lineHoldsRow, standIns := [], harness := (true, "f69a7e5dbef6a58cb3b62c5a1f3ee84ba491b96bf3016fcf41af7e34eb5bd72d"), looks := false }, kinds := [], alts := [], laidByText := true, laidKinds := [.data, .data], laidTests := true, laidLooks := .later }
def LineHoldsCardSaid : Prop := Claim7.holds Tryd.pinned (.plain (OpenSpec.ofChange lineHoldsSpec)) lineHoldsCard

/-- THE SECOND FORM's CARD OF 'scrollbacklaw06.LineNew'. -/
def lineNewUptoCard : Claim7 := { stood := { row := lineNewUptoRow, standIns := [], harness := (true, "f69a7e5dbef6a58cb3b62c5a1f3ee84ba491b96bf3016fcf41af7e34eb5bd72d"), looks := false }, kinds := [], alts := [], laidByText := true, laidKinds := [.data, .data], laidTests := true, laidLooks := .later }
def LineNewUptoCardSaid : Prop := Claim7.holds Tryd.pinned (.plain (OpenSpec.upto lineNewSpec)) lineNewUptoCard

/-- THE SECOND FORM's CARD OF 'scrollbacklaw06.LineLooks'. -/
def lineLooksUptoCard : Claim7 := { stood := { row := lineLooksUptoRow, standIns := [], harness := (true, "f69a7e5dbef6a58cb3b62c5a1f3ee84ba491b96bf3016fcf41af7e34eb5bd72d"), looks := false }, kinds := [], alts := [], laidByText := true, laidKinds := [.data, .data], laidTests := true, laidLooks := .later }
def LineLooksUptoCardSaid : Prop := Claim7.holds Tryd.pinned (.plain (OpenSpec.upto lineLooksSpec)) lineLooksUptoCard

/-- THE SECOND FORM's CARD OF 'scrollbacklaw06.LineFits'. -/
def lineFitsUptoCard : Claim7 := { stood := { row := lineFitsUptoRow, standIns := [], harness := (true, "f69a7e5dbef6a58cb3b62c5a1f3ee84ba491b96bf3016fcf41af7e34eb5bd72d"), looks := false }, kinds := [], alts := [], laidByText := true, laidKinds := [.data, .data], laidTests := true, laidLooks := .later }
def LineFitsUptoCardSaid : Prop := Claim7.holds Tryd.pinned (.plain (OpenSpec.upto lineFitsSpec)) lineFitsUptoCard

/-- THE SECOND FORM's CARD OF 'scrollbacklaw06.LinePuts'. -/
def linePutsUptoCard : Claim7 := { stood := { row := linePutsUptoRow, standIns := [], harness := (true, "f69a7e5dbef6a58cb3b62c5a1f3ee84ba491b96bf3016fcf41af7e34eb5bd72d"), looks := false }, kinds := [], alts := [], laidByText := true, laidKinds := [.data, .data], laidTests := true, laidLooks := .later }
def LinePutsUptoCardSaid : Prop := Claim7.holds Tryd.pinned (.plain (OpenSpec.upto linePutsSpec)) linePutsUptoCard

/-- THE SECOND FORM's CARD OF 'scrollbacklaw06.LineLongs'. -/
def lineLongsUptoCard : Claim7 := { stood := { row := lineLongsUptoRow, standIns := [], harness := (true, "f69a7e5dbef6a58cb3b62c5a1f3ee84ba491b96bf3016fcf41af7e34eb5bd72d"), looks := false }, kinds := [], alts := [], laidByText := true, laidKinds := [.data, .data], laidTests := true, laidLooks := .later }
def LineLongsUptoCardSaid : Prop := Claim7.holds Tryd.pinned (.plain (OpenSpec.upto lineLongsSpec)) lineLongsUptoCard

/-- THE SECOND FORM's CARD OF 'scrollbacklaw06.LineHolds'. -/
def lineHoldsUptoCard : Claim7 := { stood := { row := lineHoldsUptoRow, standIns := [], harness := (true, "f69a7e5dbef6a58cb3b62c5a1f3ee84ba491b96bf3016fcf41af7e34eb5bd72d"), looks := false }, kinds := [], alts := [], laidByText := true, laidKinds := [.data, .data], laidTests := true, laidLooks := .later }
def LineHoldsUptoCardSaid : Prop := Claim7.holds Tryd.pinned (.plain (OpenSpec.upto lineHoldsSpec)) lineHoldsUptoCard
end Rows
end Go.Proofs.YtjcpdldaimebbaaDoor
