/-
  The walk, as the card takes it.
-/
import Derived.Test.YtjnghaoboopflaaDoorSWalkB
namespace Go.Proofs.YtjnghaoboopflaaDoor
open Go.RowKit

theorem sheetPlays_for (n : Int) (a : Option Addr) (len cap : Nat) (z : List AV) (w : World) (_ : (Lit.int .i64 n).wf = true) (h : ActsC w (.slice a len cap) z) (hT : Tab w) :
    Calls Tryd.prog 3 #[.int .i64 n, .slice a len cap] w fun e w' => e = .returned (.bool true) ∧ Below w.heap.size w w' := by
  obtain ⟨A, c, b, e1, hr, hx⟩ := h
  simp only [Value.slice.injEq] at e1
  obtain ⟨rfl, rfl, rfl⟩ := e1
  exact sheetPlays_walk n a cap b z w hr hx hT
end Go.Proofs.YtjnghaoboopflaaDoor
