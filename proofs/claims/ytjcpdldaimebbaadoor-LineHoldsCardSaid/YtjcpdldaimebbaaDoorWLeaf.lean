/-
  The walks of the program's small functions: against, printed, the two closures.
-/
import Derived.Test.YtjcpdldaimebbaaDoorRows
import Derived.Test.YtjcpdldaimebbaaDoorBase
import Derived.Test.YtjcpdldaimebbaaDoorWMath
namespace Go.Proofs.YtjcpdldaimebbaaDoor
open Go.RowKit

theorem ret_int {k : IntKind} {a b : Int} (h : a = b) : Ending.returned (.int k a) = .returned (.int k b) := by rw [h]
theorem ret_bool {a b : Bool} (h : a = b) : Ending.returned (.bool a) = .returned (.bool b) := by rw [h]
theorem New.trans {a b c : World} (h : New a b) (k : New b c) : New a c := Fr.trans h k (fun _ _ h => h)
theorem New.alloc {a : World} (o : Obj) : New a (a.alloc o) := Fr.alloc (Fr.refl _ _) _

/-- Block b holds the ranges l. -/
def Rg (w : World) (b : Nat) (l : List (Int × Int)) : Prop :=
  b < w.heap.size ∧ ∀ j, j < l.length → w.cell? ⟨b, j * 2, none⟩ = some (.int .i32 (lo l j)) ∧ w.cell? ⟨b, j * 2 + 1, none⟩ = some (.int .i32 (hi l j))
theorem Rg.new {w w' : World} {b : Nat} {l : List (Int × Int)} (h : Rg w b l) (hf : New w w') : Rg w' b l :=
  ⟨Nat.lt_of_lt_of_le h.1 hf.size, fun j hj => ⟨(hf.cell (p := ⟨b, j * 2, none⟩) h.1 (fun h => h)).trans (h.2 j hj).1, (hf.cell (p := ⟨b, j * 2 + 1, none⟩) h.1 (fun h => h)).trans (h.2 j hj).2⟩⟩
/-- The cells of ranges, one behind the other. -/
def flat : List (Int × Int) → List Value
  | [] => []
  | x :: l => .int .i32 x.1 :: .int .i32 x.2 :: flat l
def arr (l : List (Int × Int)) : Array Value := (flat l).toArray
theorem flat_at (l : List (Int × Int)) (j : Nat) (hj : j < l.length) : (flat l)[j * 2]? = some (.int .i32 (lo l j)) ∧ (flat l)[j * 2 + 1]? = some (.int .i32 (hi l j)) := by
  induction l generalizing j with
  | nil => simp at hj
  | cons x l ih =>
    cases j with
    | zero => simp [flat, lo, hi]
    | succ j =>
      have := ih j (by simpa using hj)
      rw [show (j + 1) * 2 = j * 2 + 1 + 1 by omega]
      simpa [flat, lo, hi] using this
theorem Rg.of_heap {w : World} {b : Nat} {l : List (Int × Int)} {t : TypeId} {f : Nat × Nat} (h : w.heap[b]? = some (.cells (arr l) t f)) : Rg w b l := by
  have hb : b < w.heap.size := by
    rcases Nat.lt_or_ge b w.heap.size with hlt | hge
    · exact hlt
    · rw [Array.getElem?_eq_none hge] at h; cases h
  refine ⟨hb, fun j hj => ?_⟩
  have := flat_at l j hj
  rw [cell_of_row w b _ (arr l) t f h, cell_of_row w b _ (arr l) t f h]
  simpa [arr] using this
/-- Both tables stand in the program's two variables. -/
structure Tab (w : World) : Prop where
  m : ∃ t f, w.heap[0]? = some (.cells (arr marksL) t f)
  w : ∃ t f, w.heap[1]? = some (.cells (arr wideL) t f)
theorem Tab.marks {w : World} (h : Tab w) : Rg w 0 marksL := by obtain ⟨t, f, h⟩ := h.m; exact Rg.of_heap h
theorem Tab.wide {w : World} (h : Tab w) : Rg w 1 wideL := by obtain ⟨t, f, h⟩ := h.w; exact Rg.of_heap h
theorem Tab.new {w w' : World} (h : Tab w) (hf : New w w') : Tab w' := by
  have h0 := h.marks.1
  have h1 := h.wide.1
  obtain ⟨t, f, hm⟩ := h.m
  obtain ⟨s, g, hw⟩ := h.w
  exact ⟨⟨t, f, (hf.block 0 h0 (fun h => h)).trans hm⟩, ⟨s, g, (hf.block 1 h1 (fun h => h)).trans hw⟩⟩

set_option maxHeartbeats 400000 in
theorem against_any (r a b : Int) (w : World) :
    Calls Tryd.prog 84 #[.int .i32 r, .agg #[.int .i32 a, .int .i32 b]] w fun e w' => e = .returned (.int .i64 (agI r a b)) ∧ New w w' := by
  go_enter Tryd.func84, Tryd.ntmps84
  go_wp2
  all_goals
    go_ret
    refine ⟨ret_int ?_, New.alloc _⟩
    unfold agI
    repeat' split
    all_goals omega

set_option maxHeartbeats 400000 in
theorem printed_any (r : Int) (w : World) :
    Calls Tryd.prog 72 #[.int .i32 r] w fun e w' => e = .returned (.bool (printedB r)) ∧ w = w' := by
  go_enter Tryd.func72, Tryd.ntmps72
  go_wp2
  all_goals
    go_ret
    refine ⟨ret_bool ?_, rfl⟩
    unfold printedB
    simp_all <;> omega

set_option maxHeartbeats 400000 in
theorem Printed_any (r : Int) (w : World) :
    Calls Tryd.prog 76 #[.int .i32 r] w fun e w' => e = .returned (.bool (printedB r)) ∧ w = w' := by
  go_enter Tryd.func76, Tryd.ntmps76
  go_wp2
  all_goals
    go_ret
    refine ⟨ret_bool ?_, rfl⟩
    unfold printedB
    first
      | (simp_all <;> omega)
      | (rw [Bool.eq_iff_iff]; simp; omega)

end Go.Proofs.YtjcpdldaimebbaaDoor
