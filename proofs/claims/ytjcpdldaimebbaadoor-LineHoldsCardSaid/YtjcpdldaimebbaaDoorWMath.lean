/-
  The tables of the chapter, and how many columns a rune has.
-/
namespace Go.Proofs.YtjcpdldaimebbaaDoor

def marksL : List (Int × Int) := [(768, 879), (1155, 1161), (1425, 1469), (1552, 1562), (1611, 1631), (1750, 1756), (3633, 3633), (3636, 3642), (3655, 3662), (6832, 6911), (7616, 7679), (8203, 8207), (8400, 8447), (12330, 12335), (12441, 12442), (65024, 65039), (65056, 65071), (917760, 917999)]
def wideL : List (Int × Int) := [(4352, 4447), (9001, 9002), (11904, 12329), (12336, 12350), (12353, 12440), (12443, 13311), (13312, 19903), (19968, 42191), (43360, 43391), (44032, 55203), (63744, 64255), (65072, 65135), (65280, 65376), (65504, 65510), (127744, 128591), (128640, 128767), (129280, 129535), (131072, 196605), (196608, 262141)]

def lo (l : List (Int × Int)) (j : Nat) : Int := (l.getD j (0, 0)).1
def hi (l : List (Int × Int)) (j : Nat) : Int := (l.getD j (0, 0)).2

/-- -1 below a range, 0 in it, 1 above it. -/
def agI (r a b : Int) : Int := if r < a then -1 else if b < r then 1 else 0
def inB (l : List (Int × Int)) (r : Int) : Bool := l.any fun x => decide (x.1 ≤ r) && decide (r ≤ x.2)
def printedB (r : Int) : Bool := decide (32 ≤ r) && !(decide (127 ≤ r) && decide (r ≤ 159)) && !(decide (55296 ≤ r) && decide (r ≤ 57343)) && decide (r ≤ 1114111)
def ofI (r : Int) : Int := if printedB r = false then -1 else if inB marksL r then 0 else if inB wideL r then 2 else 1

/-- The ranges stand in increasing order. -/
def Sorted (l : List (Int × Int)) : Prop := ∀ j, j < l.length → lo l j ≤ hi l j ∧ (j + 1 < l.length → hi l j < lo l (j + 1))
instance (l : List (Int × Int)) : Decidable (Sorted l) := by unfold Sorted; infer_instance
theorem marks_sorted : Sorted marksL := by decide
theorem wide_sorted : Sorted wideL := by decide

theorem inB_iff (l : List (Int × Int)) (r : Int) : inB l r = true ↔ ∃ j, j < l.length ∧ agI r (lo l j) (hi l j) = 0 := by
  unfold inB
  rw [List.any_eq_true]
  constructor
  · rintro ⟨x, hx, h⟩
    obtain ⟨j, hj, rfl⟩ := List.getElem_of_mem hx
    refine ⟨j, hj, ?_⟩
    simp at h
    simp only [lo, hi, List.getD, List.getElem?_eq_getElem hj, Option.getD_some, agI]
    rw [if_neg (by omega), if_neg (by omega)]
  · rintro ⟨j, hj, h⟩
    refine ⟨l[j], List.getElem_mem hj, ?_⟩
    simp only [lo, hi, List.getD, List.getElem?_eq_getElem hj, Option.getD_some, agI] at h
    split at h
    · cases h
    · split at h
      · cases h
      · simp; omega

theorem sorted_lt {l : List (Int × Int)} (h : Sorted l) (i k : Nat) (hik : i < k) (hk : k < l.length) : hi l i < lo l k := by
  induction k with
  | zero => omega
  | succ k ih =>
    rcases Nat.lt_or_ge i k with h1 | h1
    · have h2 := ih h1 (by omega)
      have h3 := (h k (by omega)).1
      have h4 := (h k (by omega)).2 hk
      omega
    · obtain rfl : i = k := by omega
      exact (h i (by omega)).2 hk
/-- Above a range: above all ranges before it. -/
theorem ag_up {l : List (Int × Int)} (h : Sorted l) (r : Int) {i k : Nat} (hik : i ≤ k) (hk : k < l.length) (ha : 0 < agI r (lo l k) (hi l k)) : 0 < agI r (lo l i) (hi l i) := by
  rcases Nat.eq_or_lt_of_le hik with rfl | h1
  · exact ha
  · have h2 := sorted_lt h i k h1 hk
    have h3 := (h k hk).1
    have h4 := (h i (by omega)).1
    unfold agI at ha ⊢
    split at ha
    · omega
    · split at ha
      · rw [if_neg (by omega), if_pos (by omega)]; omega
      · omega

end Go.Proofs.YtjcpdldaimebbaaDoor
