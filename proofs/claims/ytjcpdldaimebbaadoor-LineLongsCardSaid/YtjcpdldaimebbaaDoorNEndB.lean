/-
  The walks, as the cards take them.
-/
import Derived.Test.YtjcpdldaimebbaaDoorNLawB
import Derived.Test.YtjcpdldaimebbaaDoorOA
namespace Go.Proofs.YtjcpdldaimebbaaDoor
open Go.RowKit

theorem lineNew_for (n : Int) (a : Option Addr) (len cap : Nat) (z : List Ce) (s : Bool) (w : World) (_ : (Lit.int .i64 n).wf = true) (h : SlC w (.slice a len cap) z) (hT : Tab w) :
    Calls Tryd.prog 3 #[.int .i64 n, .slice a len cap, .bool s] w fun e w' => e = .returned (.bool true) ∧ Below w.heap.size w w' :=
  lineNew_walk n _ z s w h hT
theorem lineLongs_for (n : Int) (last : Bool) (_ : (Lit.int .i64 n).wf = true) (w : World) (hT : Tab w) :
    Calls Tryd.prog 7 #[.int .i64 n, .bool last] w fun e w' => e = .returned (.bool true) ∧ Below w.heap.size w w' :=
  lineLongs_walk n last w hT
end Go.Proofs.YtjcpdldaimebbaaDoor
