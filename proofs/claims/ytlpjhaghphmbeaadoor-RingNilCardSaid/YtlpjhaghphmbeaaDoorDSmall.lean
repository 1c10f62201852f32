/-
  The short functions of package cell.
-/
import Derived.Test.YtlpjhaghphmbeaaDoorCValid
import Derived.Test.YtlpjhaghphmbeaaDoorA5
import Derived.Deep.DeepCutAuto
import Derived.Deep.RegionHeld3
import Derived.BigQuiet
namespace Go.Proofs.YtlpjhaghphmbeaaDoor
open Go.RowKit

set_option maxHeartbeats 800000 in
theorem isWideK (c : Ce) (b : Bool) (h : (c.wd == 2) = b) (w : World) :
    Calls Tryd.prog 74 #[c.v] w fun e w' => e = .returned (.bool b) ∧ New w w' := by
  subst h
  go_enter Tryd.func74, Tryd.ntmps74
  go_wp2_with fail
  go_ret
  exact ⟨rfl, New.alloc _⟩

set_option maxHeartbeats 800000 in
theorem isSpacerK (c : Ce) (b : Bool) (h : (c.wd == 0) = b) (w : World) :
    Calls Tryd.prog 76 #[c.v] w fun e w' => e = .returned (.bool b) ∧ New w w' := by
  subst h
  go_enter Tryd.func76, Tryd.ntmps76
  go_wp2_with fail
  go_ret
  exact ⟨rfl, New.alloc _⟩

set_option maxHeartbeats 800000 in
theorem WrittenK (c : Ce) (b : Bool) (h : (c.r != 0) = b) (w : World) :
    Calls Tryd.prog 80 #[c.v] w fun e w' => e = .returned (.bool b) ∧ New w w' := by
  subst h
  go_enter Tryd.func80, Tryd.ntmps80
  go_wp2_with fail
  go_ret
  exact ⟨rfl, New.alloc _⟩

end Go.Proofs.YtlpjhaghphmbeaaDoor
