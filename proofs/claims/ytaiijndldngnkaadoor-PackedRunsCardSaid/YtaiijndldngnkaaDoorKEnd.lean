/-
  The walks, as the cards take them.
-/
import Derived.Test.YtaiijndldngnkaaDoorKLawA
import Derived.Test.YtaiijndldngnkaaDoorKLawD
import Derived.Test.YtaiijndldngnkaaDoorKOpen
namespace Go.Proofs.YtaiijndldngnkaaDoor
open Go.RowKit

theorem packedPacks_for (A : Option Addr) (n cap : Nat) (l : List Ce) (w : World) (h : RowK w A n l) (hT : Tab w) :
    Calls Tryd.prog 5 #[.slice A n cap] w fun e w' => e = .returned (.bool true) ∧ Below w.heap.size w w' := by
  obtain ⟨b, hr, hok⟩ := h
  exact packedPacks_walk l n b cap A w hr hok hT
theorem packedRuns_for (A : Option Addr) (n ca : Nat) (la : List Rn) (B : Option Addr) (m cb : Nat) (lb : List Rn) (w : World) (h : RowR w A n la) (k : RowR w B m lb) (hT : Tab w) :
    Calls Tryd.prog 6 #[.slice A n ca, .slice B m cb] w fun e w' => e = .returned (.bool true) ∧ Below w.heap.size w w' := by
  obtain ⟨ba, ha, hoa⟩ := h
  obtain ⟨bb, hb, hob⟩ := k
  exact packedRuns_walk la lb n m ba bb ca cb A B w ha hb hoa hob hT
theorem packedHolds_for (A : Option Addr) (n ca : Nat) (la : List Ce) (B : Option Addr) (m cb : Nat) (lb : List Ce) (w : World) (h : RowK w A n la) (k : RowK w B m lb) (hT : Tab w) :
    Calls Tryd.prog 8 #[.slice A n ca, .slice B m cb] w fun e w' => e = .returned (.bool true) ∧ Below w.heap.size w w' := by
  obtain ⟨ba, ha, hoa⟩ := h
  obtain ⟨bb, hb, hob⟩ := k
  exact packedHolds_walk la lb n m ba bb ca cb A B w ha hb hoa hob hT
theorem packedLongs_for (many ix at_ : Int) (_ : (Lit.int .i64 many).wf = true) (h : (Lit.int .u8 ix).wf = true) (_ : (Lit.int .i64 at_).wf = true) (w : World) (hT : Tab w) :
    Calls Tryd.prog 7 #[.int .i64 many, .int .u8 ix, .int .i64 at_] w fun e w' => e = .returned (.bool true) ∧ Below w.heap.size w w' := by
  have h' := (wf_u8_iff ix).1 h
  exact packedLongs_walk many ix at_ h'.1 h'.2 w hT
end Go.Proofs.YtaiijndldngnkaaDoor
