/-
  cell.Written.
-/
import Derived.Test.YtaiijndldngnkaaDoorCValid
import Derived.Test.YtaiijndldngnkaaDoorCStore
import Derived.Deep.DeepCutAuto
import Derived.Deep.RegionHeld3
import Derived.BigQuiet
namespace Go.Proofs.YtaiijndldngnkaaDoor
open Go.RowKit

set_option maxHeartbeats 800000 in
theorem WrittenK (c : Ce) (b : Bool) (h : (c.r != 0) = b) (w : World) :
    Calls Tryd.prog 52 #[c.v] w fun e w' => e = .returned (.bool b) ∧ New w w' := by
  subst h
  go_enter Tryd.func52, Tryd.ntmps52
  go_wp2_with fail
  go_ret
  exact ⟨rfl, New.alloc _⟩

end Go.Proofs.YtaiijndldngnkaaDoor
