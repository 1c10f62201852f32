/-
  The walk, as the card takes it.
-/
import Derived.Test.YtjnghaoboopflaaDoorSWalkN
namespace Go.Proofs.YtjnghaoboopflaaDoor
open Go.RowKit

theorem sheetNil_for (n : Int) (a : Value) (s : Bool) (z : List Ce) (w : World) (_ : (Lit.int .i64 n).wf = true) (h : SlC w a z) (hT : Tab w) :
    Calls Tryd.prog 5 #[.int .i64 n, .agg #[a, .bool s]] w fun e w' => e = .returned (.bool true) ∧ Below w.heap.size w w' :=
  sheetNil_walk n a z s w h hT
end Go.Proofs.YtjnghaoboopflaaDoor
