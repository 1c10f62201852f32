/-
  The two closures of the search.
-/
import Derived.Test.YtjcpdldaimebbaaDoorWLeaf
import Derived.Deep.RegionWith
import Derived.Deep.DeepMust
namespace Go.Proofs.YtjcpdldaimebbaaDoor
open Go.RowKit

theorem New.of_drew {a b : World} (h : New a.drew b) : New a b := ⟨h.os, h.tape, h.output, h.size, h.block⟩

set_option maxHeartbeats 400000 in
theorem closM_any (r : Int) (g : Nat) (j : Nat) (hj : j < 18) (w : World) (hr : w.cell? ⟨g, 0, none⟩ = some (.int .i32 r)) (hT : Tab w) :
    Calls Tryd.prog 83 #[.int .i64 j, .pointer (some ⟨g, 0, none⟩)] w fun e w' => e = .returned (.int .i64 (agI r (lo marksL j) (hi marksL j))) ∧ New w w' := by
  have c1 := (hT.marks.2 j hj).1
  have c2 := (hT.marks.2 j hj).2
  have j1 : (j : Int) < 18 := by omega
  clear hT
  go_enter Tryd.func83, Tryd.ntmps83
  go_wp2
  go_region_with (first | (go_at_call 84; go_must (refine (against_any r (lo marksL j) (hi marksL j) _).mono ?_); rintro e w1 ⟨rfl, h1⟩))
  all_goals
    first | go_wp2 | skip
    go_ret
    exact ⟨rfl, h1.of_drew⟩

set_option maxHeartbeats 400000 in
theorem closW_any (r : Int) (g : Nat) (j : Nat) (hj : j < 19) (w : World) (hr : w.cell? ⟨g, 0, none⟩ = some (.int .i32 r)) (hT : Tab w) :
    Calls Tryd.prog 85 #[.int .i64 j, .pointer (some ⟨g, 0, none⟩)] w fun e w' => e = .returned (.int .i64 (agI r (lo wideL j) (hi wideL j))) ∧ New w w' := by
  have c1 := (hT.wide.2 j hj).1
  have c2 := (hT.wide.2 j hj).2
  have j1 : (j : Int) < 19 := by omega
  clear hT
  go_enter Tryd.func85, Tryd.ntmps85
  go_wp2
  go_region_with (first | (go_at_call 84; go_must (refine (against_any r (lo wideL j) (hi wideL j) _).mono ?_); rintro e w1 ⟨rfl, h1⟩))
  all_goals
    first | go_wp2 | skip
    go_ret
    exact ⟨rfl, h1.of_drew⟩

end Go.Proofs.YtjcpdldaimebbaaDoor
