/-
  Cells: which ones there are, rows, fixing; what follows from it.
-/
import Derived.Test.YtjcpdldaimebbaaDoorWMath
import Derived.Test.YtjcpdldaimebbaaDoorPMath
namespace Go.Proofs.YtjcpdldaimebbaaDoor

structure Ce where
  r : Int
  m0 : Int
  m1 : Int
  m2 : Int
  wd : Int
  p : Pn
instance : DecidableEq Ce := fun a c => decidable_of_iff (a.r = c.r ∧ a.m0 = c.m0 ∧ a.m1 = c.m1 ∧ a.m2 = c.m2 ∧ a.wd = c.wd ∧ a.p = c.p) (by cases a; cases c; simp)
/-- The parts are what their types allow. -/
structure Ce.Ok (c : Ce) : Prop where
  r0 : -2147483648 ≤ c.r
  r1 : c.r ≤ 2147483647
  a0 : -2147483648 ≤ c.m0
  a1 : c.m0 ≤ 2147483647
  b0 : -2147483648 ≤ c.m1
  b1 : c.m1 ≤ 2147483647
  c0 : -2147483648 ≤ c.m2
  c1 : c.m2 ≤ 2147483647
  w0 : -9223372036854775808 ≤ c.wd
  w1 : c.wd ≤ 9223372036854775807
  p : c.p.Ok

abbrev zeroCe : Ce := ⟨0, 0, 0, 0, 0, zeroP⟩
abbrev blankC (p : Pn) : Ce := ⟨0, 0, 0, 0, 1, p⟩
abbrev spaceC (p : Pn) : Ce := ⟨0, 0, 0, 0, 0, p⟩

/-- How many marks a cell has from the front on, and whether all are right. -/
def nM (c : Ce) : Nat := if c.m0 = 0 then 0 else if c.m1 = 0 then 1 else if c.m2 = 0 then 2 else 3
def okM (c : Ce) : Bool :=
  if c.m0 = 0 then decide (c.m1 = 0) && decide (c.m2 = 0)
  else decide (ofI c.m0 = 0) && if c.m1 = 0 then decide (c.m2 = 0)
  else decide (ofI c.m1 = 0) && (decide (c.m2 = 0) || decide (ofI c.m2 = 0))
def cellB (c : Ce) : Bool :=
  validB c.p && okM c &&
    if c.wd = 0 then decide (c.r = 0) && decide (nM c = 0)
    else if c.wd = 1 then (decide (c.r = 0) && decide (nM c = 0)) || (decide (c.r ≠ 0) && decide (ofI c.r = 1))
    else if c.wd = 2 then decide (ofI c.r = 2) else false
def wideP (c : Ce) : Option Pn := if c.wd = 2 then some c.p else none
/-- A second half stands just behind a wide cell, with its pen. -/
def shB : Option Pn → List Ce → Bool
  | none, [] => true
  | some _, [] => false
  | none, c :: t => decide (c.wd ≠ 0) && shB (wideP c) t
  | some p, c :: t => decide (c = spaceC p) && shB (wideP c) t
def rowB (l : List Ce) : Bool := l.all cellB && shB none l
/-- The cells after fixing, behind a cell that is wide (with its pen) or not. -/
def fixC (prev : Option Pn) (c : Ce) (next : Bool) : Ce :=
  match prev with
  | some p => if c.wd = 0 then spaceC p else if c.wd = 2 && !next then blankC c.p else c
  | none => if c.wd = 0 then blankC c.p else if c.wd = 2 && !next then blankC c.p else c
def headS : List Ce → Bool
  | [] => false
  | s :: _ => decide (s.wd = 0)
def fixG (prev : Option Pn) : List Ce → List Ce
  | [] => []
  | c :: t => fixC prev c (headS t) :: fixG (wideP (fixC prev c (headS t))) t
def fixL (l : List Ce) : List Ce := fixG none l

theorem of_zero : ofI 0 = -1 := by decide

theorem cell_space (p : Pn) (h : validB p = true) : cellB (spaceC p) = true := by simp [cellB, okM, nM, h]
theorem cell_blank (p : Pn) (h : validB p = true) : cellB (blankC p) = true := by simp [cellB, okM, nM, h]
theorem cell_pen {c : Ce} (h : cellB c = true) : validB c.p = true := by
  simp only [cellB, Bool.and_eq_true] at h
  exact h.1.1
theorem cell_wd {c : Ce} (h : cellB c = true) : c.wd = 0 ∨ c.wd = 1 ∨ c.wd = 2 := by
  simp only [cellB, Bool.and_eq_true] at h
  have := h.2
  split at this
  · omega
  · split at this
    · omega
    · split at this
      · omega
      · cases this

theorem fix_len (q : Option Pn) (l : List Ce) : (fixG q l).length = l.length := by
  induction l generalizing q with
  | nil => rfl
  | cons c t ih => simp [fixG, ih]

theorem fix_shape (l : List Ce) : ∀ q : Option Pn, (q ≠ none → headS l = true) → shB q (fixG q l) = true := by
  induction l with
  | nil =>
    intro q hq
    cases q with
    | none => rfl
    | some p => exact absurd (hq (by simp)) (by simp [headS])
  | cons c t ih =>
    intro q hq
    cases q with
    | none =>
      by_cases h0 : c.wd = 0
      · simp only [fixG, fixC, h0, if_true, shB, wideP]
        simpa using ih none (by simp)
      · by_cases h2 : (c.wd = 2 && !headS t) = true
        · simp only [fixG, fixC, h0, if_false, h2, if_true, shB, wideP]
          simpa using ih none (by simp)
        · simp only [fixG, fixC, h0, if_false, h2, shB, Bool.and_eq_true]
          refine ⟨by simpa using h0, ih _ (fun h => ?_)⟩
          have h2' : c.wd = 2 → headS t = true := by simpa using h2
          by_cases hw : c.wd = 2
          · exact h2' hw
          · exact absurd (by simp [wideP, hw]) h
    | some p =>
      have h0 : c.wd = 0 := by simpa [headS] using hq (by simp)
      simp only [fixG, fixC, h0, if_true, shB, wideP]
      simpa using ih none (by simp)

theorem shape_head {p : Pn} {t : List Ce} (h : shB (some p) t = true) : headS t = true := by
  cases t with
  | nil => cases h
  | cons s t =>
    simp only [shB, Bool.and_eq_true, decide_eq_true_eq] at h
    simp [headS, h.1]
theorem fix_same (l : List Ce) : ∀ q : Option Pn, shB q l = true → fixG q l = l := by
  induction l with
  | nil => intro q _; rfl
  | cons c t ih =>
    intro q h
    cases q with
    | none =>
      simp only [shB, Bool.and_eq_true, decide_eq_true_eq] at h
      have h2 : ¬ (c.wd = 2 && !headS t) = true := by
        intro h2
        simp only [Bool.and_eq_true, decide_eq_true_eq, Bool.not_eq_true'] at h2
        have h3 := h.2
        rw [wideP, if_pos h2.1] at h3
        rw [shape_head h3] at h2
        cases h2.2
      have h2' : (c.wd = 2 && !headS t) = false := by simpa using h2
      simp only [fixG, fixC, h.1, if_false, h2', Bool.false_eq_true]
      rw [ih _ h.2]
    | some p =>
      simp only [shB, Bool.and_eq_true, decide_eq_true_eq] at h
      obtain ⟨rfl, h1⟩ := h
      simp only [fixG, fixC, if_true]
      rw [ih _ h1]
theorem fix_valid (l : List Ce) : ∀ q : Option Pn, (∀ p, q = some p → validB p = true) → l.all cellB = true → (fixG q l).all cellB = true := by
  induction l with
  | nil => intro q _ _; rfl
  | cons c t ih =>
    intro q hq h
    simp only [List.all_cons, Bool.and_eq_true] at h
    have hp := cell_pen h.1
    have hc : cellB (fixC q c (headS t)) = true := by
      unfold fixC
      split
      · split
        · exact cell_space _ (hq _ rfl)
        · split
          · exact cell_blank _ hp
          · exact h.1
      · split
        · exact cell_blank _ hp
        · split
          · exact cell_blank _ hp
          · exact h.1
    simp only [fixG, List.all_cons, Bool.and_eq_true]
    refine ⟨hc, ih _ (fun p e => ?_) h.2⟩
    unfold wideP at e
    split at e
    · cases e; exact cell_pen hc
    · cases e
theorem fix_row (l : List Ce) (h : l.all cellB = true) : rowB (fixL l) = true := by
  unfold rowB fixL
  rw [fix_valid l none (by simp) h, fix_shape l none (by simp)]
  rfl
theorem row_fix (l : List Ce) (h : rowB l = true) : fixL l = l := by
  simp only [rowB, Bool.and_eq_true] at h
  exact fix_same l none h.2
theorem fix_fix (l : List Ce) : fixL (fixL l) = fixL l := fix_same _ none (fix_shape l none (by simp))
theorem shape_append (y : List Ce) (hy : shB none y = true) (x : List Ce) : ∀ q : Option Pn, shB q x = true → shB q (x ++ y) = true := by
  induction x with
  | nil =>
    intro q h
    cases q with
    | none => exact hy
    | some p => cases h
  | cons c t ih =>
    intro q h
    cases q with
    | none =>
      simp only [List.cons_append, shB, Bool.and_eq_true] at h ⊢
      exact ⟨h.1, ih _ h.2⟩
    | some p =>
      simp only [List.cons_append, shB, Bool.and_eq_true] at h ⊢
      exact ⟨h.1, ih _ h.2⟩
theorem row_append {x y : List Ce} (hx : rowB x = true) (hy : rowB y = true) : rowB (x ++ y) = true := by
  simp only [rowB, Bool.and_eq_true] at hx hy ⊢
  rw [List.all_append, hx.1, hy.1]
  exact ⟨rfl, shape_append y hy.2 x none hx.2⟩

/-- A cell with one more mark; what Mark returns. -/
def setM (c : Ce) (m : Int) : Ce := if c.m0 = 0 then { c with m0 := m } else if c.m1 = 0 then { c with m1 := m } else { c with m2 := m }
def markR (c : Ce) (m : Int) : Ce × Int :=
  if cellB c = false ∨ ofI m ≠ 0 then (zeroCe, 2) else if c.r = 0 then (zeroCe, 8) else if nM c = 3 then (zeroCe, 7) else (setM c m, 0)
theorem of_ne {m : Int} (h : ofI m = 0) : m ≠ 0 := by
  rintro rfl
  rw [of_zero] at h
  omega
theorem nM_le (c : Ce) : nM c ≤ 3 := by
  unfold nM
  repeat' split
  all_goals omega
theorem mark_valid {c : Ce} {m : Int} (h : cellB c = true) (hm : ofI m = 0) (hr : c.r ≠ 0) (hn : nM c ≠ 3) : cellB (setM c m) = true ∧ nM (setM c m) = nM c + 1 ∧ (setM c m).r = c.r := by
  have hm0 := of_ne hm
  obtain ⟨r, m0, m1, m2, wd, p⟩ := c
  simp only [cellB, Bool.and_eq_true] at h
  obtain ⟨⟨h1, h2⟩, h3⟩ := h
  simp only at hr h1 h3
  have hw : (if wd = 0 then decide (r = 0) && decide (nM ⟨r, m0, m1, m2, wd, p⟩ = 0) else if wd = 1 then (decide (r = 0) && decide (nM ⟨r, m0, m1, m2, wd, p⟩ = 0)) || (decide (r ≠ 0) && decide (ofI r = 1)) else if wd = 2 then decide (ofI r = 2) else false) = (if wd = 1 then decide (ofI r = 1) else if wd = 2 then decide (ofI r = 2) else false) := by
    by_cases w0 : wd = 0
    · simp [w0, hr]
    · simp [w0, hr]
  rw [hw] at h3
  have hk : okM (setM ⟨r, m0, m1, m2, wd, p⟩ m) = true ∧ nM (setM ⟨r, m0, m1, m2, wd, p⟩ m) = nM ⟨r, m0, m1, m2, wd, p⟩ + 1 := by
    unfold nM at hn ⊢
    unfold okM at h2 ⊢
    unfold setM
    by_cases a : m0 = 0
    · subst a
      simp_all
    · by_cases b : m1 = 0
      · subst b
        simp_all
      · by_cases c : m2 = 0
        · subst c
          simp_all
        · simp_all
  have hs : (setM ⟨r, m0, m1, m2, wd, p⟩ m).r = r ∧ (setM ⟨r, m0, m1, m2, wd, p⟩ m).wd = wd ∧ (setM ⟨r, m0, m1, m2, wd, p⟩ m).p = p := by
    unfold setM
    split
    · exact ⟨rfl, rfl, rfl⟩
    · split <;> exact ⟨rfl, rfl, rfl⟩
  refine ⟨?_, hk.2, hs.1⟩
  simp only [cellB, hs.1, hs.2.1, hs.2.2, h1, hk.1, Bool.true_and]
  by_cases w0 : wd = 0
  · rw [w0] at h3
    simp at h3
  · simp only [w0, if_false]
    by_cases w1 : wd = 1
    · simp_all
    · simp_all

/-- The cells of a rune. -/
def ofL (r : Int) (p : Pn) : List Ce := ⟨r, 0, 0, 0, ofI r, p⟩ :: if ofI r = 2 then [spaceC p] else []
theorem of_row {r : Int} {p : Pn} (hp : validB p = true) (hr : 1 ≤ ofI r) (h2 : ofI r ≤ 2) : rowB (ofL r p) = true := by
  have hr0 : r ≠ 0 := by
    rintro rfl
    rw [of_zero] at hr
    omega
  have h : ofI r = 1 ∨ ofI r = 2 := by omega
  rcases h with h | h
  · simp [ofL, h, rowB, shB, wideP, cellB, okM, hp, hr0]
  · simp [ofL, h, rowB, shB, wideP, cellB, okM, nM, hp]

/-- The runes of a cell's text. -/
def marksI (c : Ce) : List Int := (if c.m0 = 0 then [] else [c.m0]) ++ (if c.m1 = 0 then [] else [c.m1]) ++ (if c.m2 = 0 then [] else [c.m2])
def textC (c : Ce) : List Int := if c.wd = 0 then [] else if c.r = 0 then [32] else c.r :: marksI c

end Go.Proofs.YtjcpdldaimebbaaDoor
