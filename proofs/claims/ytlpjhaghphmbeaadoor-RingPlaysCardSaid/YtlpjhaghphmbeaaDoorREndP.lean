/-
  The walk, as the card takes it.
-/
import Derived.Test.YtlpjhaghphmbeaaDoorRWalkP
import Derived.Test.YtlpjhaghphmbeaaDoorROpen
namespace Go.Proofs.YtlpjhaghphmbeaaDoor
open Go.RowKit

theorem ringPlays_for (n m : Int) (a : Option Addr) (len cap : Nat) (z : List BV) (w : World) (_ : (Lit.int .i64 n).wf = true) (_ : (Lit.int .i64 m).wf = true) (h : ActsC w (.slice a len cap) z) (hT : Tab w) :
    Calls Tryd.prog 3 #[.int .i64 n, .int .i64 m, .slice a len cap] w fun e w' => e = .returned (.bool true) ∧ Below w.heap.size w w' := by
  obtain ⟨A, c, b, e1, hr, hx⟩ := h
  simp only [Value.slice.injEq] at e1
  obtain ⟨rfl, rfl, rfl⟩ := e1
  exact ringPlays_walk n m a cap b z w hr hx hT
end Go.Proofs.YtlpjhaghphmbeaaDoor
