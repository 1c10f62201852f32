/-
  The walks, as the cards take them.
-/
import Derived.Test.YtjcpdldaimebbaaDoorNLawC
import Derived.Test.YtjcpdldaimebbaaDoorOA
namespace Go.Proofs.YtjcpdldaimebbaaDoor
open Go.RowKit

theorem lineHolds_for (a : Value) (s : Bool) (z : List Ce) (n : Int) (b : Option Addr) (len cap : Nat) (y : List Ce) (m : Int) (w : World) (h : SlC w a z) (hn : (Lit.int .i64 n).wf = true) (k : SlC w (.slice b len cap) y) (hm : (Lit.int .u8 m).wf = true) (hT : Tab w) :
    Calls Tryd.prog 8 #[.agg #[a, .bool s], .int .i64 n, .slice b len cap, .int .u8 m] w fun e w' => e = .returned (.bool true) ∧ Below w.heap.size w w' := by
  have hn' := (wf_i64_iff n).1 hn
  have hm' := (wf_u8_iff m).1 hm
  obtain ⟨k', rfl⟩ : ∃ k' : Nat, m = k' := ⟨m.toNat, by omega⟩
  exact lineHolds_walk a z s n hn'.1 hn'.2 _ y k' (by omega) w h k hT
end Go.Proofs.YtjcpdldaimebbaaDoor
