/-
  The short functions of package cell.
-/
import Derived.Test.YtjnghaoboopflaaDoorCValid
import Derived.Test.YtjnghaoboopflaaDoorA5
import Derived.Deep.DeepCutAuto
import Derived.Deep.RegionHeld3
import Derived.BigQuiet
namespace Go.Proofs.YtjnghaoboopflaaDoor
open Go.RowKit

set_option maxHeartbeats 800000 in
theorem isWideK (c : Ce) (b : Bool) (h : (c.wd == 2) = b) (w : World) :
    Calls Tryd.prog 47 #[c.v] w fun e w' => e = .returned (.bool b) ∧ New w w' := by
  subst h
  go_enter Tryd.func47, Tryd.ntmps47
  go_wp2_with fail
  go_ret
  exact ⟨rfl, New.alloc _⟩

set_option maxHeartbeats 800000 in
theorem isSpacerK (c : Ce) (b : Bool) (h : (c.wd == 0) = b) (w : World) :
    Calls Tryd.prog 49 #[c.v] w fun e w' => e = .returned (.bool b) ∧ New w w' := by
  subst h
  go_enter Tryd.func49, Tryd.ntmps49
  go_wp2_with fail
  go_ret
  exact ⟨rfl, New.alloc _⟩

set_option maxHeartbeats 800000 in
theorem WrittenK (c : Ce) (b : Bool) (h : (c.r != 0) = b) (w : World) :
    Calls Tryd.prog 52 #[c.v] w fun e w' => e = .returned (.bool b) ∧ New w w' := by
  subst h
  go_enter Tryd.func52, Tryd.ntmps52
  go_wp2_with fail
  go_ret
  exact ⟨rfl, New.alloc _⟩

end Go.Proofs.YtjnghaoboopflaaDoor
