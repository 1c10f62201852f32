/-
  The walk, as the card takes it.
-/
import Derived.Test.YtlpjhaghphmbeaaDoorRWalkH
namespace Go.Proofs.YtlpjhaghphmbeaaDoor
open Go.RowKit

theorem wf_b8_iff (n : Int) : (Lit.int .u8 n).wf = true ↔ 0 ≤ n ∧ n ≤ 255 := by
  simp [Lit.wf, IntKind.min, IntKind.max, IntKind.bits, IntKind.signed]
theorem ringHolds_for (n m : Int) (a : Option Addr) (len cap : Nat) (z : List Int) (w : World) (h0 : (Lit.int .u8 n).wf = true) (h1 : (Lit.int .u8 m).wf = true)
    (h : (a = none ∧ len = 0 ∧ cap = 0 ∧ z = []) ∨ ∃ x, a = some x ∧ len ≤ cap ∧ cap ≤ maxLen ∧ z.length = cap ∧ (∀ i, i < z.length → w.cell? (x.add i) = some (.int .u8 (z.getD i 0))) ∧ ∀ n ∈ z, (Lit.int .u8 n).wf = true) (hT : Tab w) :
    Calls Tryd.prog 6 #[.int .u8 n, .int .u8 m, .slice a len cap] w fun e w' => e = .returned (.bool true) ∧ Below w.heap.size w w' := by
  rw [wf_b8_iff] at h0 h1
  exact ringHolds_walk n m h0.1 h0.2 h1.1 h1.2 a len cap _ w (bytes_of h) hT
end Go.Proofs.YtlpjhaghphmbeaaDoor
