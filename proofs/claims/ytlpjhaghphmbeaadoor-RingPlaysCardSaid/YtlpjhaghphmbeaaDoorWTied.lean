/-
  What the rows' condition on the two listed variables gives the walks: both tables stand in the heap, cell for cell.
-/
import Derived.Test.YtlpjhaghphmbeaaDoorA1
import Derived.OpenShut
import Derived.ProofKit
import Derived.LaidMore
import Derived.Lay
import Derived.Lib.LaidU8
import Derived.SevenTiedAt
namespace Go.Proofs.YtlpjhaghphmbeaaDoor
open Go.RowKit Go.ChangeShapes Go.WideShapes Go.ChangeAt

set_option maxRecDepth 8000 in
theorem own : ownKnob Tryd.prog.godebug = none := by kernel_rfl
set_option maxRecDepth 8000 in
theorem gMarks : Tryd.prog.globalNamed "scrollback/width.marks" = some 0 := by kernel_rfl
set_option maxRecDepth 8000 in
theorem gWide : Tryd.prog.globalNamed "scrollback/width.wide" = some 1 := by kernel_rfl
set_option maxRecDepth 8000 in
theorem tMarks : (Tryd.prog.globals[0]?).map (·.type) = some 130 := by kernel_rfl
set_option maxRecDepth 8000 in
theorem tWide : (Tryd.prog.globals[1]?).map (·.type) = some 131 := by kernel_rfl
set_option maxRecDepth 8000 in
theorem cells1 : Tryd.prog.cellsOf 21 = 1 := by kernel_rfl
set_option maxRecDepth 8000 in
theorem cells2 : Tryd.prog.cellsOf 129 = 2 := by kernel_rfl
set_option maxRecDepth 8000 in
theorem cells36 : Tryd.prog.cellsOf 130 = 36 := by kernel_rfl
set_option maxRecDepth 8000 in
theorem cells38 : Tryd.prog.cellsOf 131 = 38 := by kernel_rfl

/-- Ranges as data. -/
def pairD {H : Type} (x : Int × Int) : DataW H := .agg [.lit (.int .i32 x.1), .lit (.int .i32 x.2)]

section
variable {H : Type} {enc : TypeId × Value → H} {w : World} {base : Nat} {spare : Nat → Bool} {held : Bool} {fuel : Nat}

set_option maxRecDepth 8000 in
theorem pair_of_trod {cs : List Value} {y : DataW H × List MemPlace} {a : Int × Int} (h : DataW.trod enc Tryd.prog w base spare held fuel 129 cs = some y) (hy : y.1 = pairD a) : cs = [.int .i32 a.1, .int .i32 a.2] := by
  obtain ⟨xs, m, rfl, rfl, hl, hx, hel⟩ := DataW.trod_array Tryd.underlying129 h
  rw [cells2] at hl
  rw [cells1] at hel
  match cs, hl with
  | [c0, c1], _ =>
  match xs, hx with
  | [x0, x1], _ =>
    have e0 := hel 0 (by omega)
    have e1 := hel 1 (by omega)
    obtain ⟨n0, f0, g0, _⟩ := DataW.trod_int Tryd.underlying21 (show DataW.trod enc Tryd.prog w base spare held m 21 [c0] = some x0 from e0)
    obtain ⟨n1, f1, g1, _⟩ := DataW.trod_int Tryd.underlying21 (show DataW.trod enc Tryd.prog w base spare held m 21 [c1] = some x1 from e1)
    subst g0 g1
    simp only [List.cons.injEq, and_true] at f0 f1
    subst f0 f1
    simp only [pairD, List.map_cons, List.map_nil, DataW.agg.injEq, List.cons.injEq, DataW.lit.injEq, Lit.int.injEq, true_and, and_true] at hy
    obtain ⟨rfl, rfl⟩ := hy
    rfl

set_option maxRecDepth 8000 in
theorem flat_of_takes (l : List (Int × Int)) (cs : List Value) (hl : cs.length = l.length * 2) (h : ∀ i, i < l.length → (cs.drop (i * 2)).take 2 = [.int .i32 (lo l i), .int .i32 (hi l i)]) : cs = flat l := by
  induction l generalizing cs with
  | nil => exact List.eq_nil_of_length_eq_zero (by simpa using hl)
  | cons x l ih =>
    match cs, hl with
    | [], hl => simp at hl
    | [_], hl => simp at hl; omega
    | c0 :: c1 :: cs, hl =>
      have h0 := h 0 (by simp)
      simp [lo, hi] at h0
      obtain ⟨rfl, rfl⟩ := h0
      have := ih cs (by simp at hl; omega) (fun i hi => by
        have := h (i + 1) (by simpa using hi)
        rw [show (i + 1) * 2 = i * 2 + 1 + 1 by omega] at this
        simpa [lo, Go.Proofs.YtlpjhaghphmbeaaDoor.hi] using this)
      rw [flat, this]

set_option maxRecDepth 8000 in
theorem flat_of_trod {t : TypeId} {cs : List Value} {y : DataW H × List MemPlace} (l : List (Int × Int)) (ht : Tryd.prog.underlying t = some (.array l.length 129)) (hc : Tryd.prog.cellsOf t = l.length * 2)
    (h : DataW.trod enc Tryd.prog w base spare held fuel t cs = some y) (hy : y.1 = .agg (l.map pairD)) : cs = flat l := by
  obtain ⟨xs, m, rfl, rfl, hl, hx, hel⟩ := DataW.trod_array ht h
  rw [hc] at hl
  rw [cells2] at hel
  refine flat_of_takes l cs hl fun i hi => ?_
  have e := hel i hi
  rw [List.getElem?_eq_getElem (by omega)] at e
  have hy' : xs.map (·.1) = l.map pairD := by simpa using hy
  have hxi : (xs[i]'(by omega)).1 = pairD (l[i]) := by
    have := congrArg (fun z => z[i]?) hy'
    simpa [List.getElem?_eq_getElem hi, List.getElem?_eq_getElem (show i < xs.length by omega)] using this
  have := pair_of_trod e hxi
  rw [this]
  simp [lo, Go.Proofs.YtlpjhaghphmbeaaDoor.hi, List.getD, List.getElem?_eq_getElem hi]
end

set_option maxRecDepth 8000 in
theorem heap_of_var {w : World} {n : String} {g : Nat} {cs : Array Value} (hg : Tryd.prog.globalNamed n = some g) (h : w.var? Tryd.prog n = some cs) : ∃ t f, w.heap[g]? = some (.cells cs t f) := by
  simp only [World.var?, hg, Option.bind_some] at h
  split at h
  · next cs' t f e => cases h; exact ⟨t, f, e⟩
  · cases h

def laid2 : List (String × DataW Unit) := [("scrollback/width.marks", Rows.laid_scrollback_width_marks), ("scrollback/width.wide", Rows.laid_scrollback_width_wide)]

set_option maxRecDepth 8000 in
theorem tab_of_laid {W : World} (h : laidMetH Tryd.prog laid2 W) : Tab W := by
  rw [MakeChecks.laidMetH_plain _ _ _ (by kernel_rfl)] at h
  constructor
  · obtain ⟨g, t, cs, fuel, p, hg, ht, hv, hd⟩ := Lib.laidMet.reads h (n := "scrollback/width.marks") (d := Rows.laid_scrollback_width_marks) (.head _)
    obtain rfl := Option.some.inj (gMarks.symm.trans hg)
    obtain rfl := Option.some.inj (tMarks.symm.trans ht)
    have e := flat_of_trod marksL Tryd.underlying130 cells36 hd rfl
    obtain ⟨t', f, hh⟩ := heap_of_var gMarks hv
    exact ⟨t', f, by rw [hh, arr, ← e]⟩
  · obtain ⟨g, t, cs, fuel, p, hg, ht, hv, hd⟩ := Lib.laidMet.reads h (n := "scrollback/width.wide") (d := Rows.laid_scrollback_width_wide) (.tail _ (.head _))
    obtain rfl := Option.some.inj (gWide.symm.trans hg)
    obtain rfl := Option.some.inj (tWide.symm.trans ht)
    have e := flat_of_trod wideL Tryd.underlying131 cells38 hd rfl
    obtain ⟨t', f, hh⟩ := heap_of_var gWide hv
    exact ⟨t', f, by rw [hh, arr, ← e]⟩

end Go.Proofs.YtlpjhaghphmbeaaDoor
