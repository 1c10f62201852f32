/-
  DERIVED. GIVEN WITH THE SEED: THE CARDS: each row of YtgmgojoklacdlaaDoorRows.lean that lists a variable, with what it lists TIED to the program's text (the seventh form; the later family's looks); each row that meets fmt, with fmt's text TOLD by the authors' own Lean function (tested against real Go, not proved from fmt's source: count such statements apart). THE CARD IS WHAT COUNTS. Prove the row's statement (the work); the ties are given (YtgmgojoklacdlaaDoorTie.lean); close each card by the builder's one call (the guide's Derived/Test/ToyasCard.lean, 'card_holds'). Laid BY PROGRAM, IN A SANDBOX (cutbox-door.mjs). By AI agents, Wed Nov 11 2026. No macro, syntax, notation, axiom, sorry.
-/
import Derived.Test.YtgmgojoklacdlaaDoorRows
import GoSem.ClaimSeven
namespace Go.Proofs.YtgmgojoklacdlaaDoor
namespace Rows

/-- THE TIED CARD OF 'scrollbacklaw03.PenValid'. -/
def penValidCard : Claim7 := { stood := { row := penValidRow, standIns := [], harness := (true, "915e9218a8abda8302047fd7ecc4c39a55bc82061dd2889c2619bfe1514147f4"), looks := false }, kinds := [], alts := [], laidByText := true, laidKinds := [.data], laidTests := true, laidLooks := .later }
def PenValidCardSaid : Prop := Claim7.holds Tryd.pinned (.plain (OpenSpec.ofChange penValidSpec)) penValidCard

/-- THE TIED CARD OF 'scrollbacklaw03.PenColors'. -/
def penColorsCard : Claim7 := { stood := { row := penColorsRow, standIns := [], harness := (true, "915e9218a8abda8302047fd7ecc4c39a55bc82061dd2889c2619bfe1514147f4"), looks := false }, kinds := [], alts := [], laidByText := true, laidKinds := [.data], laidTests := true, laidLooks := .later }
def PenColorsCardSaid : Prop := Claim7.holds Tryd.pinned (.plain (OpenSpec.ofChange penColorsSpec)) penColorsCard

/-- THE TIED CARD OF 'scrollbacklaw03.PenWords'. -/
def penWordsCard : Claim7 := { stood := { row := penWordsRow, standIns := [], harness := (true, "915e9218a8abda8302047fd7ecc4c39a55bc82061dd2889c2619bfe1514147f4"), looks := false }, kinds := [], alts := [], laidByText := true, laidKinds := [.data], laidTests := true, laidLooks := .later }
def PenWordsCardSaid : Prop := Claim7.holds Tryd.pinned (.plain (OpenSpec.ofChange penWordsSpec)) penWordsCard

/-- THE TIED CARD OF 'scrollbacklaw03.PenNames'. -/
def penNamesCard : Claim7 := { stood := { row := penNamesRow, standIns := [], harness := (true, "915e9218a8abda8302047fd7ecc4c39a55bc82061dd2889c2619bfe1514147f4"), looks := false }, kinds := [], alts := [], laidByText := true, laidKinds := [.data], laidTests := true, laidLooks := .later }
def PenNamesCardSaid : Prop := Claim7.holds Tryd.pinned (.plain (OpenSpec.ofChange penNamesSpec)) penNamesCard

/-- THE TIED CARD OF 'scrollbacklaw03.PenHolds'. -/
def penHoldsCard : Claim7 := { stood := { row := penHoldsRow, standIns := [], harness := (true, "915e9218a8abda8302047fd7ecc4c39a55bc82061dd2889c2619bfe1514147f4"), looks := false }, kinds := [], alts := [], laidByText := true, laidKinds := [.data], laidTests := true, laidLooks := .later }
def PenHoldsCardSaid : Prop := Claim7.holds Tryd.pinned (.plain (OpenSpec.ofChange penHoldsSpec)) penHoldsCard

/-- THE SECOND FORM's CARD OF 'scrollbacklaw03.PenValid'. -/
def penValidUptoCard : Claim7 := { stood := { row := penValidUptoRow, standIns := [], harness := (true, "915e9218a8abda8302047fd7ecc4c39a55bc82061dd2889c2619bfe1514147f4"), looks := false }, kinds := [], alts := [], laidByText := true, laidKinds := [.data], laidTests := true, laidLooks := .later }
def PenValidUptoCardSaid : Prop := Claim7.holds Tryd.pinned (.plain (OpenSpec.upto penValidSpec)) penValidUptoCard

/-- THE SECOND FORM's CARD OF 'scrollbacklaw03.PenColors'. -/
def penColorsUptoCard : Claim7 := { stood := { row := penColorsUptoRow, standIns := [], harness := (true, "915e9218a8abda8302047fd7ecc4c39a55bc82061dd2889c2619bfe1514147f4"), looks := false }, kinds := [], alts := [], laidByText := true, laidKinds := [.data], laidTests := true, laidLooks := .later }
def PenColorsUptoCardSaid : Prop := Claim7.holds Tryd.pinned (.plain (OpenSpec.upto penColorsSpec)) penColorsUptoCard

/-- THE SECOND FORM's CARD OF 'scrollbacklaw03.PenWords'. -/
def penWordsUptoCard : Claim7 := { stood := { row := penWordsUptoRow, standIns := [], harness := (true, "915e9218a8abda8302047fd7ecc4c39a55bc82061dd2889c2619bfe1514147f4"), looks := false }, kinds := [], alts := [], laidByText := true, laidKinds := [.data], laidTests := true, laidLooks := .later }
def PenWordsUptoCardSaid : Prop := Claim7.holds Tryd.pinned (.plain (OpenSpec.upto penWordsSpec)) penWordsUptoCard

/-- THE SECOND FORM's CARD OF 'scrollbacklaw03.PenNames'. -/
def penNamesUptoCard : Claim7 := { stood := { row := penNamesUptoRow, standIns := [], harness := (true, "915e9218a8abda8302047fd7ecc4c39a55bc82061dd2889c2619bfe1514147f4"), looks := false }, kinds := [], alts := [], laidByText := true, laidKinds := [.data], laidTests := true, laidLooks := .later }
def PenNamesUptoCardSaid : Prop := Claim7.holds Tryd.pinned (.plain (OpenSpec.upto penNamesSpec)) penNamesUptoCard

/-- THE SECOND FORM's CARD OF 'scrollbacklaw03.PenHolds'. -/
def penHoldsUptoCard : Claim7 := { stood := { row := penHoldsUptoRow, standIns := [], harness := (true, "915e9218a8abda8302047fd7ecc4c39a55bc82061dd2889c2619bfe1514147f4"), looks := false }, kinds := [], alts := [], laidByText := true, laidKinds := [.data], laidTests := true, laidLooks := .later }
def PenHoldsUptoCardSaid : Prop := Claim7.holds Tryd.pinned (.plain (OpenSpec.upto penHoldsSpec)) penHoldsUptoCard
end Rows
end Go.Proofs.YtgmgojoklacdlaaDoor
