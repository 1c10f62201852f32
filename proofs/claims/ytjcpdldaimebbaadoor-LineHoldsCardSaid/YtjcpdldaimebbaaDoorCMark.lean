/-
  The specification's Mark.
-/
import Derived.Test.YtjcpdldaimebbaaDoorCValid
import Derived.Test.YtjcpdldaimebbaaDoorCStore
import Derived.Deep.DeepCutAuto
namespace Go.Proofs.YtjcpdldaimebbaaDoor
open Go.RowKit

theorem VCk (c : Ce) (b : Bool) (h : cellB c = b) (w : World) : Calls Tryd.prog 56 #[c.v] w fun e w' => e = .returned (.bool b) ∧ New w w' := by
  subst h
  exact RValidC_any c w
theorem cell_okM {c : Ce} (h : cellB c = true) : okM c = true := by
  simp only [cellB, Bool.and_eq_true] at h
  exact h.1.2
/-- A block of the call's own was turned. -/
theorem new_far {a w w' : World} {g : Nat} (h : New a w) (hf : Fr (fun k => k = g) w w') (hg : a.heap.size ≤ g) : New a w' :=
  ⟨hf.os.trans h.os, hf.tape.trans h.tape, hf.output.trans h.output, Nat.le_trans h.size hf.size, fun k hk _ => (hf.block k (Nat.lt_of_lt_of_le hk h.size) (by omega)).trans (h.block k hk (fun h => h))⟩

end Go.Proofs.YtjcpdldaimebbaaDoor
