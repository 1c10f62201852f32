/-
  The specification's Stain: cells of a row of the call's own are changed.
-/
import Derived.Test.YtlpjhaghphmbeaaDoorCValid
import Derived.Test.YtlpjhaghphmbeaaDoorA5
import Derived.Deep.DeepCutAuto
import Derived.Deep.CutBlock
import Derived.Deep.CutRange
import Derived.Test.YtlpjhaghphmbeaaDoorDSmall
import Derived.Test.YtlpjhaghphmbeaaDoorDMarks
import Derived.Test.YtlpjhaghphmbeaaDoorA2
import Derived.OpenShut
import Derived.Laws.Cover4
import Derived.Laws.OwnMore
namespace Go.Proofs.YtlpjhaghphmbeaaDoor
open Go.RowKit

/-- The Rune and the Width of each cell are numbers of their kinds. -/
def Ty (xs : List Value) (n : Nat) : Prop := ∀ k, k < n → ∃ r d : Int, xs[k * 16]? = some (.int .i32 r) ∧ xs[k * 16 + 4]? = some (.int .i64 d)
theorem Ty.set0 {xs : List Value} {n : Nat} (h : Ty xs n) (hl : xs.length = n * 16) {k : Nat} (hk : k < n) (a : Int) : Ty (xs.set (k * 16) (.int .i32 a)) n := by
  intro j hj
  obtain ⟨r, d, h1, h2⟩ := h j hj
  by_cases e : k = j
  · subst e
    refine ⟨a, d, ?_, ?_⟩
    · rw [List.getElem?_set, if_pos rfl, if_pos (by omega)]
    · rw [List.getElem?_set, if_neg (by omega), h2]
  · refine ⟨r, d, ?_, ?_⟩
    · rw [List.getElem?_set, if_neg (by omega), h1]
    · rw [List.getElem?_set, if_neg (by omega), h2]
theorem Ty.set4 {xs : List Value} {n : Nat} (h : Ty xs n) (hl : xs.length = n * 16) {k : Nat} (hk : k < n) (a : Int) : Ty (xs.set (k * 16 + 4) (.int .i64 a)) n := by
  intro j hj
  obtain ⟨r, d, h1, h2⟩ := h j hj
  by_cases e : k = j
  · subst e
    refine ⟨r, a, ?_, ?_⟩
    · rw [List.getElem?_set, if_neg (by omega), h1]
    · rw [List.getElem?_set, if_pos rfl, if_pos (by omega)]
  · refine ⟨r, d, ?_, ?_⟩
    · rw [List.getElem?_set, if_neg (by omega), h1]
    · rw [List.getElem?_set, if_neg (by omega), h2]
theorem ty_flat (l : List Ce) (n : Nat) (h : l.length = n) : Ty (flatC l) n := by
  intro k hk
  have h0 := flatC_at l k 0 (by omega) (by omega)
  have h4 := flatC_at l k 4 (by omega) (by omega)
  exact ⟨_, _, h0, h4⟩
theorem own_addr {w : World} {base : Nat} {e : TypeId} {A : Option Addr} {n c : Nat} {xs : List Value} (h : w.ownsRow base e 16 (.slice A n c) n xs) (hn : 0 < n) : ∃ g, A = some ⟨g, 0, none⟩ ∧ base ≤ g := by
  rcases h.2 with ⟨_, h0⟩ | ⟨g, cap, cur, hv, hb, _⟩
  · omega
  · injection hv with hA
    exact ⟨g, hA, hb⟩

end Go.Proofs.YtlpjhaghphmbeaaDoor
