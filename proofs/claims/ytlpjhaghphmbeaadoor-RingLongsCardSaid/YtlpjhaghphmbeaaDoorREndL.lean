/-
  The walk, as the card takes it.
-/
import Derived.Test.YtlpjhaghphmbeaaDoorRWalkL
namespace Go.Proofs.YtlpjhaghphmbeaaDoor
open Go.RowKit

theorem wf_u16_iff (n : Int) : (Lit.int .u16 n).wf = true ↔ 0 ≤ n ∧ n ≤ 65535 := by
  simp [Lit.wf, IntKind.min, IntKind.max, IntKind.bits, IntKind.signed]
theorem ringLongs_for (a b c : Int) (h1 : (Lit.int .u16 a).wf = true) (h2 : (Lit.int .u16 b).wf = true) (h3 : (Lit.int .u16 c).wf = true) (w : World) (hT : Tab w) :
    Calls Tryd.prog 4 #[.int .u16 a, .int .u16 b, .int .u16 c] w fun e w' => e = .returned (.bool true) ∧ Below w.heap.size w w' := by
  rw [wf_u16_iff] at h1 h2 h3
  exact ringLongs_walk a b c h1.1 h1.2 h2.1 h2.2 h3.1 h3.2 w hT
end Go.Proofs.YtlpjhaghphmbeaaDoor
