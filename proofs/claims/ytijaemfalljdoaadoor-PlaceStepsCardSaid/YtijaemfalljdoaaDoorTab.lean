/-
  What the rows' condition on the listed variables gives the walks: a table of powers of ten, two errors, and a number, each in its variable.
-/
import Derived.Test.YtijaemfalljdoaaDoorRows
import Derived.Test.YtijaemfalljdoaaDoorBase
import Derived.Lib.LaidTab
import Derived.Lib.ItoaMem
import Derived.OpenShut
import Derived.ProofKit
import Derived.LaidMore
import Derived.Lay
import Derived.SevenTiedAt
namespace Go.Proofs.YtijaemfalljdoaaDoor
open Go.RowKit

theorem New.trans {a b c : World} (h : New a b) (k : New b c) : New a c := Fr.trans h k (fun _ _ h => h)
theorem New.alloc {a : World} (o : Obj) : New a (a.alloc o) := Fr.alloc (Fr.refl _ _) _
theorem var_new {P : Program} {w w' : World} {n : String} {cs : Array Value} (h : w.var? P n = some cs) (hf : New w w') : w'.var? P n = some cs := by
  unfold World.var? at h ⊢
  cases hg : P.globalNamed n with
  | none => rw [hg] at h; cases h
  | some g =>
    rw [hg] at h
    simp only [Option.bind_some] at h ⊢
    rcases Nat.lt_or_ge g w.heap.size with hlt | hge
    · rw [hf.block g hlt (fun h => h)]; exact h
    · rw [Array.getElem?_eq_none hge] at h; cases h
theorem var_fr {P : Program} {S : Nat → Prop} {w w' : World} {n : String} {g : Nat} {cs : Array Value} (hg : P.globalNamed n = some g) (h : w.var? P n = some cs) (hf : Fr S w w') (hs : ¬ S g) : w'.var? P n = some cs := by
  unfold World.var? at h ⊢
  rw [hg] at h ⊢
  simp only [Option.bind_some] at h ⊢
  rcases Nat.lt_or_ge g w.heap.size with hlt | hge
  · rw [hf.block g hlt hs]; exact h
  · rw [Array.getElem?_eq_none hge] at h; cases h
set_option maxRecDepth 8000 in
theorem gPow : Tryd.prog.globalNamed "internal/strconv.uint64pow10" = some 3 := by kernel_rfl
set_option maxRecDepth 8000 in
theorem gSyn : Tryd.prog.globalNamed "strconv.ErrSyntax" = some 1 := by kernel_rfl
set_option maxRecDepth 8000 in
theorem gRan : Tryd.prog.globalNamed "strconv.ErrRange" = some 2 := by kernel_rfl
/-- How many variables the program has: their blocks come first. -/
abbrev NG : Nat := 6
/-- The variables of the library that are read. -/
structure Tab (w : World) : Prop where
  pow : Lib.TabIs Tryd.prog w "internal/strconv.uint64pow10" .u64 Lib.pow10Tab
  syn : ∃ tp p, w.var? Tryd.prog "strconv.ErrSyntax" = some #[.iface tp p]
  ran : ∃ tp p, w.var? Tryd.prog "strconv.ErrRange" = some #[.iface tp p]
  sz : NG ≤ w.heap.size
  max : ∃ m, w.cell? ⟨0, 0, none⟩ = some (.int .i64 m)
theorem Tab.new {w w' : World} (h : Tab w) (hf : New w w') : Tab w' := by
  obtain ⟨t1, p1, h1⟩ := h.syn
  obtain ⟨t2, p2, h2⟩ := h.ran
  obtain ⟨m, h3⟩ := h.max
  exact ⟨var_new h.pow hf, ⟨t1, p1, var_new h1 hf⟩, ⟨t2, p2, var_new h2 hf⟩, Nat.le_trans h.sz hf.size, ⟨m, (hf.cell (World.block_lt_of_cell? w _ h3) (fun h => h)).trans h3⟩⟩
theorem Tab.fr {S : Nat → Prop} {w w' : World} (h : Tab w) (hf : Fr S w w') (hs : ∀ k, S k → NG ≤ k) : Tab w' := by
  obtain ⟨t1, p1, h1⟩ := h.syn
  obtain ⟨t2, p2, h2⟩ := h.ran
  obtain ⟨m, h3⟩ := h.max
  exact ⟨var_fr gPow h.pow hf (fun k => by have := hs _ k; unfold NG at this; omega), ⟨t1, p1, var_fr gSyn h1 hf (fun k => by have := hs _ k; unfold NG at this; omega)⟩, ⟨t2, p2, var_fr gRan h2 hf (fun k => by have := hs _ k; unfold NG at this; omega)⟩, Nat.le_trans h.sz hf.size, ⟨m, (hf.cell (World.block_lt_of_cell? w _ h3) (fun k => by have := hs _ k; unfold NG at this; simp only at this; omega)).trans h3⟩⟩
theorem Tab.drew {w : World} (h : Tab w) : Tab w.drew := h.new (Fr.drew (Fr.refl _ _))
end Go.Proofs.YtijaemfalljdoaaDoor
