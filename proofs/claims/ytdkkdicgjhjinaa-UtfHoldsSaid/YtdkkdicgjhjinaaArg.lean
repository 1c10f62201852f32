/-
  An argument that is a slice of bytes or of runes, read as a list.
-/
import Derived.Test.YtdkkdicgjhjinaaKnown
import Derived.OpenShut
namespace Go.Proofs.Ytdkkdicgjhjinaa
open Go.RowKit

def RowIn (k : IntKind) (w : World) (a : Option Addr) (len cap : Nat) (zs : List Int) : Prop :=
  (a = none ∧ len = 0 ∧ cap = 0 ∧ zs = []) ∨
  ∃ x, a = some x ∧ len ≤ cap ∧ cap ≤ maxLen ∧ zs.length = cap ∧ (∀ i, i < zs.length → w.cell? (x.add i) = some (.int k (zs.getD i 0))) ∧ ∀ n ∈ zs, (Lit.int k n).wf = true

theorem RowIn.read {k : IntKind} {w : World} {a : Option Addr} {len cap : Nat} {zs : List Int} (h : RowIn k w a len cap zs) :
    ∃ (t : List Int) (b : Nat), t.length = len ∧ (∀ n ∈ t, (Lit.int k n).wf = true) ∧ Rd w b a len (t.map (.int k)) := by
  rcases h with ⟨rfl, rfl, rfl, rfl⟩ | ⟨x, rfl, hl, _, hz, hc, hw⟩
  · exact ⟨[], 0, rfl, by simp, Rd.nil w 0 none⟩
  · refine ⟨zs.take len, x.block, by rw [List.length_take]; omega, fun n hn => hw n (List.mem_of_mem_take hn), ⟨by rw [List.length_map, List.length_take]; omega, fun h0 => ?_⟩⟩
    obtain ⟨b, off, spot⟩ := x
    have h1 := hc 0 (by omega)
    have hs : spot = none := by simpa [Addr.add] using World.cell?_spot h1
    subst hs
    refine ⟨off, rfl, ?_, fun j hj => ?_⟩
    · rw [addr_add] at h1
      exact World.block_lt_of_cell? w _ h1
    · have h2 := hc j (by omega)
      rw [addr_add] at h2
      rw [h2]
      simp [hj, List.getElem?_eq_getElem (show j < zs.length by omega), List.getD]

theorem RowIn.bytes {w : World} {a : Option Addr} {len cap : Nat} {zs : List Int} (h : RowIn .u8 w a len cap zs) : ∃ (t : List Int) (b : Nat), t.length = len ∧ Bytes t ∧ Rd w b a len (B8 t) := by
  obtain ⟨t, b, h1, h2, h3⟩ := h.read
  exact ⟨t, b, h1, fun x hx => by have := bounds_u8 (h2 x hx); omega, h3⟩
theorem RowIn.runes {w : World} {a : Option Addr} {len cap : Nat} {zs : List Int} (h : RowIn .i32 w a len cap zs) : ∃ (t : List Int) (b : Nat), t.length = len ∧ (∀ x ∈ t, -2147483648 ≤ x ∧ x ≤ 2147483647) ∧ Rd w b a len (R32 t) := by
  obtain ⟨t, b, h1, h2, h3⟩ := h.read
  exact ⟨t, b, h1, fun x hx => bounds_i32 (h2 x hx), h3⟩

end Go.Proofs.Ytdkkdicgjhjinaa
