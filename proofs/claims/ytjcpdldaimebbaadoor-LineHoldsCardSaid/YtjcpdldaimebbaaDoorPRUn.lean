/-
  The specification's pen with a word.
-/
import Derived.Test.YtjcpdldaimebbaaDoorPPen
namespace Go.Proofs.YtjcpdldaimebbaaDoor
open Go.RowKit

theorem Blk.far11 {w : World} {g h : Nat} {t : TypeId} {cs : Array Value} (B : Blk w h t cs) (hne : h ≠ g) {x0 x1 x2 x3 x4 x5 x6 x7 x8 x9 x10 : Value} : Blk (((((((((((w.setCell ⟨g, 0, none⟩ x0).setCell ⟨g, 1, none⟩ x1).setCell ⟨g, 2, none⟩ x2).setCell ⟨g, 3, none⟩ x3).setCell ⟨g, 4, none⟩ x4).setCell ⟨g, 5, none⟩ x5).setCell ⟨g, 6, none⟩ x6).setCell ⟨g, 7, none⟩ x7).setCell ⟨g, 8, none⟩ x8).setCell ⟨g, 9, none⟩ x9).setCell ⟨g, 10, none⟩ x10) h t cs :=
  (((((((((((B.far (p := ⟨g, 0, none⟩) hne x0).far (p := ⟨g, 1, none⟩) hne x1).far (p := ⟨g, 2, none⟩) hne x2).far (p := ⟨g, 3, none⟩) hne x3).far (p := ⟨g, 4, none⟩) hne x4).far (p := ⟨g, 5, none⟩) hne x5).far (p := ⟨g, 6, none⟩) hne x6).far (p := ⟨g, 7, none⟩) hne x7).far (p := ⟨g, 8, none⟩) hne x8).far (p := ⟨g, 9, none⟩) hne x9).far (p := ⟨g, 10, none⟩) hne x10)

end Go.Proofs.YtjcpdldaimebbaaDoor
