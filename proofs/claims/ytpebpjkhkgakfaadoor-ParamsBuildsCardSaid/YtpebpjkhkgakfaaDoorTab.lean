/-
  What the rows' condition on the listed variables gives the walks: a table of powers of ten in its variable.
-/
import Derived.Test.YtpebpjkhkgakfaaDoorRows
import Derived.Test.YtpebpjkhkgakfaaDoorBase
import Derived.Lib.LaidTab
import Derived.Lib.ItoaMem
import Derived.OpenShut
import Derived.ProofKit
import Derived.LaidMore
import Derived.Lay
import Derived.SevenTiedAt
namespace Go.Proofs.YtpebpjkhkgakfaaDoor
open Go.RowKit

theorem New.trans {a b c : World} (h : New a b) (k : New b c) : New a c := Fr.trans h k (fun _ _ h => h)
theorem New.alloc {a : World} (o : Obj) : New a (a.alloc o) := Fr.alloc (Fr.refl _ _) _
theorem var_new {P : Program} {w w' : World} {n : String} {cs : Array Value} (h : w.var? P n = some cs) (hf : New w w') : w'.var? P n = some cs := by
  unfold World.var? at h ⊢
  cases hg : P.globalNamed n with
  | none => rw [hg] at h; cases h
  | some g =>
    rw [hg] at h
    simp only [Option.bind_some] at h ⊢
    rcases Nat.lt_or_ge g w.heap.size with hlt | hge
    · rw [hf.block g hlt (fun h => h)]; exact h
    · rw [Array.getElem?_eq_none hge] at h; cases h
theorem var_fr {P : Program} {S : Nat → Prop} {w w' : World} {n : String} {g : Nat} {cs : Array Value} (hg : P.globalNamed n = some g) (h : w.var? P n = some cs) (hf : Fr S w w') (hs : ¬ S g) : w'.var? P n = some cs := by
  unfold World.var? at h ⊢
  rw [hg] at h ⊢
  simp only [Option.bind_some] at h ⊢
  rcases Nat.lt_or_ge g w.heap.size with hlt | hge
  · rw [hf.block g hlt hs]; exact h
  · rw [Array.getElem?_eq_none hge] at h; cases h
set_option maxRecDepth 8000 in
theorem gPow : Tryd.prog.globalNamed "internal/strconv.uint64pow10" = some 1 := by kernel_rfl
/-- How many variables the program has: their blocks come first. -/
abbrev NG : Nat := 4
/-- The variables of the library that are read. -/
structure Tab (w : World) : Prop where
  pow : Lib.TabIs Tryd.prog w "internal/strconv.uint64pow10" .u64 Lib.pow10Tab
  sz : NG ≤ w.heap.size
theorem Tab.new {w w' : World} (h : Tab w) (hf : New w w') : Tab w' := ⟨var_new h.pow hf, Nat.le_trans h.sz hf.size⟩
theorem Tab.fr {S : Nat → Prop} {w w' : World} (h : Tab w) (hf : Fr S w w') (hs : ∀ k, S k → NG ≤ k) : Tab w' :=
  ⟨var_fr gPow h.pow hf (fun k => by have := hs _ k; unfold NG at this; omega), Nat.le_trans h.sz hf.size⟩
theorem Tab.drew {w : World} (h : Tab w) : Tab w.drew := h.new (Fr.drew (Fr.refl _ _))
end Go.Proofs.YtpebpjkhkgakfaaDoor
