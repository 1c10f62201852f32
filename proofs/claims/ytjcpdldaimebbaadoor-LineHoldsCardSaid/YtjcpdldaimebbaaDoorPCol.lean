/-
  The colors with some bits.
-/
import Derived.Test.YtjcpdldaimebbaaDoorPLeaf
namespace Go.Proofs.YtjcpdldaimebbaaDoor
open Go.RowKit

theorem col_one {x : Int} (h : x / 16777216 = 1) : colW x = ⟨1, x % 256, 0, 0, 0⟩ := by unfold colW; rw [if_pos h]
theorem col_two {x : Int} (h : x / 16777216 = 2) : colW x = ⟨2, 0, x / 65536 % 256, x / 256 % 256, x % 256⟩ := by unfold colW; rw [if_neg (by omega), if_pos h]
theorem col_no {x : Int} (h : ¬ x / 16777216 = 1) (h2 : ¬ x / 16777216 = 2) : colW x = zeroC := by unfold colW; rw [if_neg h, if_neg h2]
theorem ret_col {a b : Co} (h : a = b) : Ending.returned a.v = .returned b.v := by rw [h]

end Go.Proofs.YtjcpdldaimebbaaDoor
