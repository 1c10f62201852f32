/-
  The walk, as the card takes it.
-/
import Derived.Test.YtlpjhaghphmbeaaDoorRWalkN
namespace Go.Proofs.YtlpjhaghphmbeaaDoor
open Go.RowKit

theorem ringNil_for (n m : Int) (a : Value) (s : Bool) (z : List Ce) (w : World) (_ : (Lit.int .i64 n).wf = true) (_ : (Lit.int .i64 m).wf = true) (h : SlC w a z) (hT : Tab w) :
    Calls Tryd.prog 5 #[.int .i64 n, .int .i64 m, .agg #[a, .bool s]] w fun e w' => e = .returned (.bool true) ∧ Below w.heap.size w w' :=
  ringNil_walk n m a z s w h hT
end Go.Proofs.YtlpjhaghphmbeaaDoor
