/-
  What the rows' condition on the listed variable gives the walks: the eight words stand in the heap.
-/
import Derived.Test.YtgmgojoklacdlaaDoorNames
import Derived.OpenShut
import Derived.ProofKit
import Derived.LaidMore
import Derived.Lay
import Derived.Lib.LaidU8
import Derived.SevenTiedAt
namespace Go.Proofs.YtgmgojoklacdlaaDoor
open Go.RowKit Go.ChangeShapes Go.WideShapes Go.ChangeAt

theorem own : ownKnob Tryd.prog.godebug = none := by kernel_rfl
theorem gWords : Tryd.prog.globalNamed "scrollback/pen.words" = some 0 := by kernel_rfl
theorem tWords : (Tryd.prog.globals[0]?).map (·.type) = some 68 := by kernel_rfl
theorem cells1s : Tryd.prog.cellsOf 9 = 1 := by kernel_rfl
theorem cells8s : Tryd.prog.cellsOf 68 = 8 := by kernel_rfl

section
variable {H : Type} {enc : TypeId × Value → H} {w : World} {base : Nat} {spare : Nat → Bool} {held : Bool} {fuel : Nat}

theorem words_of_trod {cs : List Value} {y : DataW H × List MemPlace} (h : DataW.trod enc Tryd.prog w base spare held fuel 68 cs = some y)
    (hy : y.1 = .agg (wordsL.map fun l => .lit (.string l))) : cs = wordsL.map fun l => Value.string ⟨l.toArray⟩ := by
  obtain ⟨xs, m, rfl, rfl, hl, hx, hel⟩ := DataW.trod_array Tryd.underlying68 h
  rw [cells8s] at hl
  rw [cells1s] at hel
  have hy' : xs.map (·.1) = wordsL.map fun l => (.lit (.string l) : DataW H) := by simpa using hy
  refine List.ext_getElem? fun i => ?_
  rcases Nat.lt_or_ge i 8 with hi | hi
  · have e := hel i hi
    have hil : i < cs.length := by omega
    have h1 : (cs.drop (i * 1)).take 1 = [cs[i]] := by
      rw [Nat.mul_one, List.drop_eq_getElem_cons hil]
      rfl
    rw [h1, List.getElem?_eq_getElem (show i < xs.length by omega)] at e
    obtain ⟨s, f0, g0, _⟩ := DataW.trod_string Tryd.underlying9 e
    have hw : i < wordsL.length := hi
    have hyi := congrArg (fun z => z[i]?) hy'
    simp only [List.getElem?_map, List.getElem?_eq_getElem (show i < xs.length by omega), List.getElem?_eq_getElem hw, Option.map_some, Option.some.injEq] at hyi
    rw [g0] at hyi
    injection hyi with hyi
    injection hyi with hyi
    have f1 : cs[i] = Value.string s := by simpa using f0
    rw [List.getElem?_eq_getElem hil, List.getElem?_map, List.getElem?_eq_getElem hw, Option.map_some, f1, ← hyi]
  · rw [List.getElem?_eq_none (by omega), List.getElem?_eq_none (by simp; exact hi)]
end

theorem heap_of_var {w : World} {n : String} {g : Nat} {cs : Array Value} (hg : Tryd.prog.globalNamed n = some g) (h : w.var? Tryd.prog n = some cs) : ∃ t f, w.heap[g]? = some (.cells cs t f) := by
  simp only [World.var?, hg, Option.bind_some] at h
  split at h
  · next cs' t f e => cases h; exact ⟨t, f, e⟩
  · cases h

def laid2 : List (String × DataW Unit) := [("scrollback/pen.words", Rows.laid_scrollback_pen_words)]

theorem tab_of_laid {W : World} (h : laidMetH Tryd.prog laid2 W) : Tab W := by
  rw [MakeChecks.laidMetH_plain _ _ _ (by kernel_rfl)] at h
  obtain ⟨g, t, cs, fuel, p, hg, ht, hv, hd⟩ := Lib.laidMet.reads h (n := "scrollback/pen.words") (d := Rows.laid_scrollback_pen_words) (.head _)
  obtain rfl := Option.some.inj (gWords.symm.trans hg)
  obtain rfl := Option.some.inj (tWords.symm.trans ht)
  have e := words_of_trod hd rfl
  obtain ⟨t', f, hh⟩ := heap_of_var gWords hv
  exact ⟨t', f, by rw [hh, wordsA, ← e]⟩

end Go.Proofs.YtgmgojoklacdlaaDoor
