/-
  The walks, as the cards take them.
-/
import Derived.Test.YtjcpdldaimebbaaDoorNLawA
import Derived.Test.YtjcpdldaimebbaaDoorOA
namespace Go.Proofs.YtjcpdldaimebbaaDoor
open Go.RowKit

theorem lineLooks_for (a : Value) (s : Bool) (z : List Ce) (b : Value) (t : Bool) (y : List Ce) (w : World) (h : SlC w a z) (k : SlC w b y) (hT : Tab w) :
    Calls Tryd.prog 4 #[.agg #[a, .bool s], .agg #[b, .bool t]] w fun e w' => e = .returned (.bool true) ∧ Below w.heap.size w w' :=
  lineLooks_walk a b z y s t w h k hT
theorem lineFits_for (a : Value) (s : Bool) (z : List Ce) (n : Int) (w : World) (h : SlC w a z) (_ : (Lit.int .i64 n).wf = true) (hT : Tab w) :
    Calls Tryd.prog 5 #[.agg #[a, .bool s], .int .i64 n] w fun e w' => e = .returned (.bool true) ∧ Below w.heap.size w w' :=
  lineFits_walk a z s n w h hT
theorem linePuts_for (a : Value) (s : Bool) (z : List Ce) (n : Int) (b : Option Addr) (len cap : Nat) (y : List Ce) (w : World) (h : SlC w a z) (hn : (Lit.int .i64 n).wf = true) (k : SlC w (.slice b len cap) y) (hT : Tab w) :
    Calls Tryd.prog 6 #[.agg #[a, .bool s], .int .i64 n, .slice b len cap] w fun e w' => e = .returned (.bool true) ∧ Below w.heap.size w w' := by
  have hn' := (wf_i64_iff n).1 hn
  exact linePuts_walk a z s n hn'.1 hn'.2 _ y w h k hT
end Go.Proofs.YtjcpdldaimebbaaDoor
