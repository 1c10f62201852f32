/-
  How many columns any rune has, and its neighbours.
-/
import Derived.Test.YtlfhoiamacbfhaaDoorKnown
namespace Go.Proofs.YtlfhoiamacbfhaaDoor
open Go.RowKit

set_option maxHeartbeats 2000000 in
theorem of_walk0 (r : Int) (w : World) (hT : Tab w) :
    Calls Tryd.prog 3 #[.int .i32 r] w fun e w' => e = .returned (.bool true) ∧ New w w' := by
  have H := Lib.hid hT
  clear hT
  go_enter Tryd.func3, Tryd.ntmps3
  go_wp2_with fail
  refine (Of_any _ _ H.out).mono ?_
  rintro e w1 ⟨rfl, h1⟩
  have G1 := Lib.hid h1
  clear h1
  go_wp2_with fail
  refine (ROf_any _ _).mono ?_
  rintro e w2 ⟨rfl, h2⟩
  have G2 := Lib.hid (G1.out.trans h2)
  clear h2
  go_wp2_with fail
  refine (Of_any _ _ (H.out.new G2.out)).mono ?_
  rintro e w3 ⟨rfl, h3⟩
  have G3 := Lib.hid (G2.out.trans h3)
  clear h3
  go_wp2_with fail
  refine (ROf_any _ _).mono ?_
  rintro e w4 ⟨rfl, h4⟩
  have G4 := Lib.hid (G3.out.trans h4)
  clear h4
  go_wp2_with fail
  refine (Of_any _ _ (H.out.new G4.out)).mono ?_
  rintro e w5 ⟨rfl, h5⟩
  have G5 := Lib.hid (G4.out.trans h5)
  clear h5
  go_wp2_with fail
  refine (ROf_any _ _).mono ?_
  rintro e w6 ⟨rfl, h6⟩
  have G6 := Lib.hid (G5.out.trans h6)
  clear h6
  go_wp2_with fail
  refine (known_any _ (H.out.new G6.out)).mono ?_
  rintro e w7 ⟨rfl, h7⟩
  have G7 := Lib.hid (G6.out.trans h7)
  clear h7
  go_wp2_with fail
  go_ret
  exact ⟨rfl, G7.out⟩

theorem widthOf_walk (a0 : Int) (_ : (Lit.int .i32 a0).wf = true) (w : World) (hT : Tab w) :
    Calls Tryd.prog 3 #[.int .i32 a0] w fun e w' => e = .returned (.bool true) ∧ Below w.heap.size w w' :=
  (of_walk0 a0 w hT).mono fun _ _ h => ⟨h.1, h.2.new_below⟩

end Go.Proofs.YtlfhoiamacbfhaaDoor
