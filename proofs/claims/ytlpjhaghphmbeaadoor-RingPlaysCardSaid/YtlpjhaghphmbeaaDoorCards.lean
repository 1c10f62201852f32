/-
  DERIVED. GIVEN WITH THE SEED: THE CARDS: each row of YtlpjhaghphmbeaaDoorRows.lean that lists a variable, with what it lists TIED to the program's text (the seventh form; the later family's looks); each row that meets fmt, with fmt's text TOLD by the authors' own Lean function (tested against real Go, not proved from fmt's source: count such statements apart). THE CARD IS WHAT COUNTS. Prove the row's statement (the work); the ties are given (YtlpjhaghphmbeaaDoorTie.lean); close each card by the builder's one call (the guide's Derived/Test/ToyasCard.lean, 'card_holds'). Laid BY PROGRAM, IN A SANDBOX (cutbox-door.mjs). By AI agents, Wed Nov 11 2026. No macro, syntax, notation, axiom, sorry.
-/
import Derived.Test.YtlpjhaghphmbeaaDoorRows
import GoSem.ClaimSeven
namespace Go.Proofs.YtlpjhaghphmbeaaDoor
namespace Rows

/-- THE TIED CARD OF 'scrollbacklaw08.RingPlays'. -/
def ringPlaysCard : Claim7 := { stood := { row := ringPlaysRow, standIns := [], harness := (true, "bc753c11b736b86987fc997bf77f8d4f2ff484c651604a7444b70e747444005c"), looks := false }, kinds := [], alts := [], laidByText := true, laidKinds := [.data, .data], laidTests := true, laidLooks := .later }
def RingPlaysCardSaid : Prop := Claim7.holds Tryd.pinned (.plain (OpenSpec.ofChange ringPlaysSpec)) ringPlaysCard

/-- THE TIED CARD OF 'scrollbacklaw08.RingLongs'. -/
def ringLongsCard : Claim7 := { stood := { row := ringLongsRow, standIns := [], harness := (true, "bc753c11b736b86987fc997bf77f8d4f2ff484c651604a7444b70e747444005c"), looks := false }, kinds := [], alts := [], laidByText := true, laidKinds := [.data, .data], laidTests := true, laidLooks := .later }
def RingLongsCardSaid : Prop := Claim7.holds Tryd.pinned (.plain (OpenSpec.ofChange ringLongsSpec)) ringLongsCard

/-- THE TIED CARD OF 'scrollbacklaw08.RingNil'. -/
def ringNilCard : Claim7 := { stood := { row := ringNilRow, standIns := [], harness := (true, "bc753c11b736b86987fc997bf77f8d4f2ff484c651604a7444b70e747444005c"), looks := false }, kinds := [], alts := [], laidByText := true, laidKinds := [.data, .data], laidTests := true, laidLooks := .later }
def RingNilCardSaid : Prop := Claim7.holds Tryd.pinned (.plain (OpenSpec.ofChange ringNilSpec)) ringNilCard

/-- THE TIED CARD OF 'scrollbacklaw08.RingHolds'. -/
def ringHoldsCard : Claim7 := { stood := { row := ringHoldsRow, standIns := [], harness := (true, "bc753c11b736b86987fc997bf77f8d4f2ff484c651604a7444b70e747444005c"), looks := false }, kinds := [], alts := [], laidByText := true, laidKinds := [.data, .data], laidTests := true, laidLooks := .later }
def RingHoldsCardSaid : Prop := Claim7.holds Tryd.pinned (.plain (OpenSpec.ofChange ringHoldsSpec)) ringHoldsCard

/-- THE SECOND FORM's CARD OF 'scrollbacklaw08.RingPlays'. -/
def ringPlaysUptoCard : Claim7 := { stood := { row := ringPlaysUptoRow, standIns := [], harness := (true, "bc753c11b736b86987fc997bf77f8d4f2ff484c651604a7444b70e747444005c"), looks := false }, kinds := [], alts := [], laidByText := true, laidKinds := [.data, .data], laidTests := true, laidLooks := .later }
def RingPlaysUptoCardSaid : Prop := Claim7.holds Tryd.pinned (.plain (OpenSpec.upto ringPlaysSpec)) ringPlaysUptoCard

/-- THE SECOND FORM's CARD OF 'scrollbacklaw08.RingLongs'. -/
def ringLongsUptoCard : Claim7 := { stood := { row := ringLongsUptoRow, standIns := [], harness := (true, "bc753c11b736b86987fc997bf77f8d4f2ff484c651604a7444b70e747444005c"), looks := false }, kinds := [], alts := [], laidByText := true, laidKinds := [.data, .data], laidTests := true, laidLooks := .later }
def RingLongsUptoCardSaid : Prop := Claim7.holds Tryd.pinned (.plain (OpenSpec.upto ringLongsSpec)) ringLongsUptoCard

/-- THE SECOND FORM's CARD OF 'scrollbacklaw08.RingNil'. -/
def ringNilUptoCard : Claim7 := { stood := { row := ringNilUptoRow, standIns := [], harness := (true, "bc753c11b736b86987fc997bf77f8d4f2ff484c651604a7444b70e747444005c"), looks := false }, kinds := [], alts := [], laidByText := true, laidKinds := [.data, .data], laidTests := true, laidLooks := .later }
def RingNilUptoCardSaid : Prop := Claim7.holds Tryd.pinned (.plain (OpenSpec.upto ringNilSpec)) ringNilUptoCard

/-- THE SECOND FORM's CARD OF 'scrollbacklaw08.RingHolds'. -/
def ringHoldsUptoCard : Claim7 := { stood := { row := ringHoldsUptoRow, standIns := [], harness := (true, "bc753c11b736b86987fc997bf77f8d4f2ff484c651604a7444b70e747444005c"), looks := false }, kinds := [], alts := [], laidByText := true, laidKinds := [.data, .data], laidTests := true, laidLooks := .later }
def RingHoldsUptoCardSaid : Prop := Claim7.holds Tryd.pinned (.plain (OpenSpec.upto ringHoldsSpec)) ringHoldsUptoCard
end Rows
end Go.Proofs.YtlpjhaghphmbeaaDoor
