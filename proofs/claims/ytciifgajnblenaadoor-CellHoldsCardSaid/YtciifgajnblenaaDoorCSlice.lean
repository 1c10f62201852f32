/-
  An argument that is a slice of cells, opened.
-/
import Derived.Test.YtciifgajnblenaaDoorCOpen
import Derived.Test.YtciifgajnblenaaDoorCList
import Derived.Deep.Slices
namespace Go.Proofs.YtciifgajnblenaaDoor
open Go.RowKit Go.ChangeShapes Go.WideShapes Go.Deep

/-- What a walk is told of a slice of cells that came in. -/
def RowC (w : World) (A : Option Addr) (len : Nat) (l : List Ce) : Prop := ∃ b, RdC w b A len l
section
variable {H : Type} {enc : TypeId × Value → H} {w : World} {base : Nat} {spare : Nat → Bool} {held : Bool}
theorem open_cells {fuel : Nat} {cs : List Value} {x : DataW H × List MemPlace} (h : DataW.trod enc Tryd.prog w base spare held fuel 45 cs = some x) :
    ∃ (A : Option Addr) (len cap : Nat) (l : List Ce), cs = [.slice A len cap] ∧ RowC w A len l := by
  rcases open_slice Tryd.underlying45 h with ⟨rfl, _⟩ | ⟨a, len, cap, m, n, D, Pl, rfl, hb, hl, hm, hmm, hx, hi⟩
  · exact ⟨none, 0, 0, [], rfl, 0, RdC.nil _ _ _⟩
  refine ⟨some a, len, cap, ?_⟩
  have hlm : len ≤ m := by rw [hmm]; split <;> omega
  have hc16 : Tryd.prog.cellsOf 30 = 16 := by kernel_rfl
  have key : ∀ i, ∃ c : Ce, i < len → ∀ j, j < 16 → w.cell? (a.add (i * 16 + j)) = c.ls[j]? := by
    intro i
    by_cases hil : i < len
    · obtain ⟨cs', hcs, ht⟩ := hi i (by omega)
      obtain ⟨c, _, rfl, _⟩ := cell_of_trod ht
      rw [hc16] at hcs
      obtain ⟨_, _, hat⟩ := World.cells?_some hcs
      exact ⟨c, fun _ j hj => by rw [← Go.Deep.add_add]; exact hat j hj⟩
    · exact ⟨zeroCe, fun h => absurd h hil⟩
  obtain ⟨f, hf⟩ := Classical.axiomOfChoice key
  refine ⟨(List.range len).map f, rfl, a.block, by simp, fun h0 => ?_⟩
  obtain ⟨b, off, spot⟩ := a
  have h1 := hf 0 h0 0 (by omega)
  have h1' : w.cell? ((⟨b, off, spot⟩ : Addr).add 0) = some (.int .i32 (f 0).r) := h1
  have hs : spot = none := by simpa [Addr.add] using World.cell?_spot h1'
  subst hs
  refine ⟨off, rfl, ?_, fun j hj => ?_⟩
  · rw [addr_add] at h1'
    exact World.block_lt_of_cell? w _ h1'
  · have h2 := hf (j / 16) (by omega) (j % 16) (by omega)
    rw [addr_add, show j / 16 * 16 + j % 16 = j by omega] at h2
    rw [h2]
    have h3 := flatC_at ((List.range len).map f) (j / 16) (j % 16) (by simp; omega) (by omega)
    rw [show j / 16 * 16 + j % 16 = j by omega] at h3
    rw [h3]
    simp
end

end Go.Proofs.YtciifgajnblenaaDoor
