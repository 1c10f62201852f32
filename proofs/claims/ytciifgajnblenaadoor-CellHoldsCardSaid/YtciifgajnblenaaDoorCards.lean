/-
  DERIVED. GIVEN WITH THE SEED: THE CARDS: each row of YtciifgajnblenaaDoorRows.lean that lists a variable, with what it lists TIED to the program's text (the seventh form; the later family's looks); each row that meets fmt, with fmt's text TOLD by the authors' own Lean function (tested against real Go, not proved from fmt's source: count such statements apart). THE CARD IS WHAT COUNTS. Prove the row's statement (the work); the ties are given (YtciifgajnblenaaDoorTie.lean); close each card by the builder's one call (the guide's Derived/Test/ToyasCard.lean, 'card_holds'). Laid BY PROGRAM, IN A SANDBOX (cutbox-door.mjs). By AI agents, Wed Nov 11 2026. No macro, syntax, notation, axiom, sorry.
-/
import Derived.Test.YtciifgajnblenaaDoorRows
import GoSem.ClaimSeven
namespace Go.Proofs.YtciifgajnblenaaDoor
namespace Rows

/-- THE TIED CARD OF 'scrollbacklaw04.CellOf'. -/
def cellOfCard : Claim7 := { stood := { row := cellOfRow, standIns := [], harness := (true, "174c74a215459da0e3e3fea313d65b1c3f5b65d1777e96da70323df7fc762e48"), looks := false }, kinds := [], alts := [], laidByText := true, laidKinds := [.data, .data], laidTests := true, laidLooks := .later }
def CellOfCardSaid : Prop := Claim7.holds Tryd.pinned (.plain (OpenSpec.ofChange cellOfSpec)) cellOfCard

/-- THE TIED CARD OF 'scrollbacklaw04.CellLooks'. -/
def cellLooksCard : Claim7 := { stood := { row := cellLooksRow, standIns := [], harness := (true, "174c74a215459da0e3e3fea313d65b1c3f5b65d1777e96da70323df7fc762e48"), looks := false }, kinds := [], alts := [], laidByText := true, laidKinds := [.data, .data], laidTests := true, laidLooks := .later }
def CellLooksCardSaid : Prop := Claim7.holds Tryd.pinned (.plain (OpenSpec.ofChange cellLooksSpec)) cellLooksCard

/-- THE TIED CARD OF 'scrollbacklaw04.CellMarks'. -/
def cellMarksCard : Claim7 := { stood := { row := cellMarksRow, standIns := [], harness := (true, "174c74a215459da0e3e3fea313d65b1c3f5b65d1777e96da70323df7fc762e48"), looks := false }, kinds := [], alts := [], laidByText := true, laidKinds := [.data, .data], laidTests := true, laidLooks := .later }
def CellMarksCardSaid : Prop := Claim7.holds Tryd.pinned (.plain (OpenSpec.ofChange cellMarksSpec)) cellMarksCard

/-- THE TIED CARD OF 'scrollbacklaw04.CellRows'. -/
def cellRowsCard : Claim7 := { stood := { row := cellRowsRow, standIns := [], harness := (true, "174c74a215459da0e3e3fea313d65b1c3f5b65d1777e96da70323df7fc762e48"), looks := false }, kinds := [], alts := [], laidByText := true, laidKinds := [.data, .data], laidTests := true, laidLooks := .later }
def CellRowsCardSaid : Prop := Claim7.holds Tryd.pinned (.plain (OpenSpec.ofChange cellRowsSpec)) cellRowsCard

/-- THE TIED CARD OF 'scrollbacklaw04.CellHolds'. -/
def cellHoldsCard : Claim7 := { stood := { row := cellHoldsRow, standIns := [], harness := (true, "174c74a215459da0e3e3fea313d65b1c3f5b65d1777e96da70323df7fc762e48"), looks := false }, kinds := [], alts := [], laidByText := true, laidKinds := [.data, .data], laidTests := true, laidLooks := .later }
def CellHoldsCardSaid : Prop := Claim7.holds Tryd.pinned (.plain (OpenSpec.ofChange cellHoldsSpec)) cellHoldsCard

/-- THE SECOND FORM's CARD OF 'scrollbacklaw04.CellOf'. -/
def cellOfUptoCard : Claim7 := { stood := { row := cellOfUptoRow, standIns := [], harness := (true, "174c74a215459da0e3e3fea313d65b1c3f5b65d1777e96da70323df7fc762e48"), looks := false }, kinds := [], alts := [], laidByText := true, laidKinds := [.data, .data], laidTests := true, laidLooks := .later }
def CellOfUptoCardSaid : Prop := Claim7.holds Tryd.pinned (.plain (OpenSpec.upto cellOfSpec)) cellOfUptoCard

/-- THE SECOND FORM's CARD OF 'scrollbacklaw04.CellLooks'. -/
def cellLooksUptoCard : Claim7 := { stood := { row := cellLooksUptoRow, standIns := [], harness := (true, "174c74a215459da0e3e3fea313d65b1c3f5b65d1777e96da70323df7fc762e48"), looks := false }, kinds := [], alts := [], laidByText := true, laidKinds := [.data, .data], laidTests := true, laidLooks := .later }
def CellLooksUptoCardSaid : Prop := Claim7.holds Tryd.pinned (.plain (OpenSpec.upto cellLooksSpec)) cellLooksUptoCard

/-- THE SECOND FORM's CARD OF 'scrollbacklaw04.CellMarks'. -/
def cellMarksUptoCard : Claim7 := { stood := { row := cellMarksUptoRow, standIns := [], harness := (true, "174c74a215459da0e3e3fea313d65b1c3f5b65d1777e96da70323df7fc762e48"), looks := false }, kinds := [], alts := [], laidByText := true, laidKinds := [.data, .data], laidTests := true, laidLooks := .later }
def CellMarksUptoCardSaid : Prop := Claim7.holds Tryd.pinned (.plain (OpenSpec.upto cellMarksSpec)) cellMarksUptoCard

/-- THE SECOND FORM's CARD OF 'scrollbacklaw04.CellRows'. -/
def cellRowsUptoCard : Claim7 := { stood := { row := cellRowsUptoRow, standIns := [], harness := (true, "174c74a215459da0e3e3fea313d65b1c3f5b65d1777e96da70323df7fc762e48"), looks := false }, kinds := [], alts := [], laidByText := true, laidKinds := [.data, .data], laidTests := true, laidLooks := .later }
def CellRowsUptoCardSaid : Prop := Claim7.holds Tryd.pinned (.plain (OpenSpec.upto cellRowsSpec)) cellRowsUptoCard

/-- THE SECOND FORM's CARD OF 'scrollbacklaw04.CellHolds'. -/
def cellHoldsUptoCard : Claim7 := { stood := { row := cellHoldsUptoRow, standIns := [], harness := (true, "174c74a215459da0e3e3fea313d65b1c3f5b65d1777e96da70323df7fc762e48"), looks := false }, kinds := [], alts := [], laidByText := true, laidKinds := [.data, .data], laidTests := true, laidLooks := .later }
def CellHoldsUptoCardSaid : Prop := Claim7.holds Tryd.pinned (.plain (OpenSpec.upto cellHoldsSpec)) cellHoldsUptoCard
end Rows
end Go.Proofs.YtciifgajnblenaaDoor
