/-
  The walks as the cards want them.
-/
import Derived.Test.YtciifgajnblenaaDoorLLooks
import Derived.Test.YtciifgajnblenaaDoorLMarks
import Derived.Test.YtciifgajnblenaaDoorCOpen
namespace Go.Proofs.YtciifgajnblenaaDoor
open Go.RowKit

theorem cellLooks_for (c : Ce) (_w0 : c.Ok) (w : World) (hT : Tab w) : Calls Tryd.prog 4 #[c.v] w fun e w' => e = .returned (.bool true) ∧ Below w.heap.size w w' := cellLooks_walk c w hT
def RowIn (k : IntKind) (w : World) (a : Option Addr) (len cap : Nat) (zs : List Int) : Prop :=
  (a = none ∧ len = 0 ∧ cap = 0 ∧ zs = []) ∨
  ∃ x, a = some x ∧ len ≤ cap ∧ cap ≤ maxLen ∧ zs.length = cap ∧ (∀ i, i < zs.length → w.cell? (x.add i) = some (.int k (zs.getD i 0))) ∧ ∀ n ∈ zs, (Lit.int k n).wf = true

theorem RowIn.read {k : IntKind} {w : World} {a : Option Addr} {len cap : Nat} {zs : List Int} (h : RowIn k w a len cap zs) :
    ∃ (t : List Int) (b : Nat), t.length = len ∧ Rd w b a len (t.map (.int k)) := by
  rcases h with ⟨rfl, rfl, rfl, rfl⟩ | ⟨x, rfl, hl, _, hz, hc, _⟩
  · exact ⟨[], 0, rfl, Rd.nil w 0 none⟩
  · refine ⟨zs.take len, x.block, by rw [List.length_take]; omega, ⟨by rw [List.length_map, List.length_take]; omega, fun h0 => ?_⟩⟩
    obtain ⟨b, off, spot⟩ := x
    have h1 := hc 0 (by omega)
    have hs : spot = none := by simpa [Addr.add] using World.cell?_spot h1
    subst hs
    refine ⟨off, rfl, ?_, fun j hj => ?_⟩
    · rw [addr_add] at h1
      exact World.block_lt_of_cell? w _ h1
    · have h2 := hc j (by omega)
      rw [addr_add] at h2
      rw [h2]
      simp [hj, List.getElem?_eq_getElem (show j < zs.length by omega), List.getD]

theorem cellMarks_for (c : Ce) (A : Option Addr) (n cap : Nat) (zs : List Int) (w : World) (_w0 : c.Ok) (w1 : RowIn .i32 w A n cap zs) (hT : Tab w) :
    Calls Tryd.prog 5 #[c.v, .slice A n cap] w fun e w' => e = .returned (.bool true) ∧ Below w.heap.size w w' := by
  obtain ⟨t, b, _, hr⟩ := w1.read
  have hn : n ≤ maxLen := by
    rcases w1 with ⟨_, rfl, _⟩ | ⟨_, _, h1, h2, _⟩
    · exact Nat.zero_le _
    · omega
  exact cellMarks_walk c t n b cap A w hr hn hT

end Go.Proofs.YtciifgajnblenaaDoor
