/-
  The statement on the colors with a number, and by parts.
-/
import Derived.Test.YtgmgojoklacdlaaDoorKnown
namespace Go.Proofs.YtgmgojoklacdlaaDoor
open Go.RowKit

theorem eq_selfc (c : Co) : ∀ w, (Op.equalIn 10000 24 c.v c.v).run Tryd.prog w = .ok true w := fun w => by
  have := eq_col 9998 c c w
  rwa [decide_eq_true rfl] at this

set_option maxHeartbeats 1600000 in
theorem colors_walk (n r g b : Int) (w : World) (hT : Tab w) :
    Calls Tryd.prog 4 #[.int .u8 n, .int .u8 r, .int .u8 g, .int .u8 b] w fun e w' => e = .returned (.bool true) ∧ New w w' := by
  have HT := Lib.hid hT
  have h1 := eq_selfc ⟨1, n, 0, 0, 0⟩
  have h2 := eq_selfc ⟨2, 0, r, g, b⟩
  have gd := guard24
  clear hT
  go_enter Tryd.func4, Tryd.ntmps4
  go_wp2_with fail
  refine (Index_any n _).mono ?_
  rintro e w1 ⟨rfl, hn⟩
  have HN := Lib.hid hn
  clear hn
  go_wp2_with fail
  refine (True_any r g b _).mono ?_
  rintro e w2 ⟨rfl, hn⟩
  have HN := Lib.hid (HN.out.trans hn)
  clear hn
  go_wp2_with fail
  refine (known_any _ (HT.out.new HN.out)).mono ?_
  rintro e w3 ⟨rfl, hn⟩
  have HN := Lib.hid (HN.out.trans hn)
  clear hn
  go_wp2_with fail
  go_ret
  exact ⟨rfl, HN.out⟩

theorem penColors_walk (a0 a1 a2 a3 : Int) (_ : (Lit.int .u8 a0).wf = true) (_ : (Lit.int .u8 a1).wf = true) (_ : (Lit.int .u8 a2).wf = true) (_ : (Lit.int .u8 a3).wf = true) (w : World) (hT : Tab w) :
    Calls Tryd.prog 4 #[.int .u8 a0, .int .u8 a1, .int .u8 a2, .int .u8 a3] w fun e w' => e = .returned (.bool true) ∧ Below w.heap.size w w' :=
  (colors_walk a0 a1 a2 a3 w hT).mono fun _ _ h => ⟨h.1, h.2.new_below⟩

end Go.Proofs.YtgmgojoklacdlaaDoor
