/-
  The decoder's numbers: plain functions on whole numbers and lists of them. Nothing of the translation.
-/
namespace Go.Proofs.Ytdkkdicgjhjinaa

/-- How many bytes a rune has that begins with c. -/
def lenI (c : Int) : Int := if c < 128 then 1 else if c < 194 then 0 else if c < 224 then 2 else if c < 240 then 3 else if c < 245 then 4 else 0
def secLo (c : Int) : Int := if c = 224 then 160 else if c = 237 then 128 else if c = 240 then 144 else if c = 244 then 128 else 128
def secHi (c : Int) : Int := if c = 224 then 191 else if c = 237 then 159 else if c = 240 then 191 else if c = 244 then 143 else 191

/-- Does c go on with the pending bytes s? -/
def goesB : List Int → Int → Bool
  | [], _ => false
  | [b], c => decide (secLo b ≤ c ∧ c ≤ secHi b)
  | _, c => decide (128 ≤ c ∧ c ≤ 191)

def runeOf : List Int → Int
  | [a] => a
  | [a, b] => (a % 64) * 64 + b % 64
  | [a, b, c] => ((a % 32) * 64 + b % 64) * 64 + c % 64
  | [a, b, c, d] => (((a % 16) * 64 + b % 64) * 64 + c % 64) * 64 + d % 64
  | _ => 0

/-- What ending emits. -/
def endI (s : List Int) : List Int := if s = [] then [] else [65533]
/-- One byte: the pending bytes and the runes that are there then. -/
def stepI (s : List Int) (c : Int) : List Int × List Int :=
  if goesB s c = true then (if (s.length : Int) + 1 < lenI (s.getD 0 0) then (s ++ [c], []) else ([], [runeOf (s ++ [c])]))
  else if lenI c = 0 then ([], endI s ++ [65533]) else if lenI c = 1 then ([], endI s ++ [c]) else ([c], endI s)
/-- Bytes that may be pending. -/
def PV : List Int → Prop
  | [] => True
  | [a] => 2 ≤ lenI a
  | [a, b] => 3 ≤ lenI a ∧ goesB [a] b = true
  | [a, b, c] => 4 ≤ lenI a ∧ goesB [a] b = true ∧ goesB [a, b] c = true
  | _ => False

theorem lenI_lo {a : Int} (h : 2 ≤ lenI a) : 194 ≤ a ∧ a < 245 := by
  unfold lenI at h
  repeat' split at h
  all_goals omega
theorem lenI_one {a : Int} (h : lenI a = 1) : a < 128 := by
  unfold lenI at h
  repeat' split at h
  all_goals omega
theorem lenI_le (a : Int) : 0 ≤ lenI a ∧ lenI a ≤ 4 := by
  unfold lenI
  repeat' split
  all_goals omega
theorem goesB1 {a b : Int} (h : goesB [a] b = true) : 128 ≤ b ∧ b ≤ 191 := by
  have h := of_decide_eq_true (show decide (secLo a ≤ b ∧ b ≤ secHi a) = true from h)
  unfold secLo secHi at h
  repeat' split at h
  all_goals omega
theorem goesB2 {a b c : Int} {l : List Int} (h : goesB (a :: b :: l) c = true) : 128 ≤ c ∧ c ≤ 191 := by
  simpa [goesB] using h
theorem PV.len {s : List Int} (h : PV s) : s.length ≤ 3 := by
  match s, h with
  | [], _ => simp
  | [_], _ => simp
  | [_, _], _ => simp
  | [_, _, _], _ => simp

theorem stepI_more {s : List Int} {c : Int} (hg : goesB s c = true) (hm : (s.length : Int) + 1 < lenI (s.getD 0 0)) : stepI s c = (s ++ [c], []) := by
  unfold stepI; rw [if_pos hg, if_pos hm]
theorem stepI_done {s : List Int} {c : Int} (hg : goesB s c = true) (hm : ¬ (s.length : Int) + 1 < lenI (s.getD 0 0)) : stepI s c = ([], [runeOf (s ++ [c])]) := by
  unfold stepI; rw [if_pos hg, if_neg hm]
theorem stepI_bad {s : List Int} {c : Int} (hg : goesB s c = false) (hl : lenI c = 0) : stepI s c = ([], endI s ++ [65533]) := by
  unfold stepI; rw [if_neg (by simp [hg]), if_pos hl]
theorem stepI_one {s : List Int} {c : Int} (hg : goesB s c = false) (hl : lenI c = 1) : stepI s c = ([], endI s ++ [c]) := by
  unfold stepI; rw [if_neg (by simp [hg]), if_neg (by omega), if_pos hl]
theorem stepI_new {s : List Int} {c : Int} (hg : goesB s c = false) (hl : 2 ≤ lenI c) : stepI s c = ([c], endI s) := by
  unfold stepI; rw [if_neg (by simp [hg]), if_neg (by omega), if_neg (by omega)]

theorem stepI_pv {s : List Int} (c : Int) (h : PV s) : PV (stepI s c).1 := by
  by_cases hg : goesB s c = true
  · by_cases hm : (s.length : Int) + 1 < lenI (s.getD 0 0)
    · rw [stepI_more hg hm]
      match s, h with
      | [], _ => simp [goesB] at hg
      | [a], h => exact ⟨by simp at hm; omega, hg⟩
      | [a, b], h => exact ⟨by simp at hm; omega, h.2, hg⟩
      | [a, b, d], h =>
        have := (lenI_le a).2
        simp at hm
        omega
    · rw [stepI_done hg hm]; exact trivial
  · have hg : goesB s c = false := by simpa using hg
    have hc := lenI_le c
    rcases (by omega : lenI c = 0 ∨ lenI c = 1 ∨ 2 ≤ lenI c) with hl | hl | hl
    · rw [stepI_bad hg hl]; exact trivial
    · rw [stepI_one hg hl]; exact trivial
    · rw [stepI_new hg hl]; exact hl

/-- All bytes, one after the other. -/
def feedI : List Int → List Int → List Int × List Int
  | s, [] => (s, [])
  | s, c :: t => ((feedI (stepI s c).1 t).1, (stepI s c).2 ++ (feedI (stepI s c).1 t).2)
theorem feedI_append (t u : List Int) : ∀ s, feedI s (t ++ u) = ((feedI (feedI s t).1 u).1, (feedI s t).2 ++ (feedI (feedI s t).1 u).2) := by
  induction t with
  | nil => intro s; simp [feedI]
  | cons c t ih => intro s; simp [feedI, ih]
theorem feedI_snoc (t : List Int) (c : Int) (s : List Int) : feedI s (t ++ [c]) = ((stepI (feedI s t).1 c).1, (feedI s t).2 ++ (stepI (feedI s t).1 c).2) := by
  rw [feedI_append]; simp [feedI]
theorem feedI_pv (t : List Int) : ∀ {s : List Int}, PV s → PV (feedI s t).1 := by
  induction t with
  | nil => intro s h; exact h
  | cons c t ih => intro s h; exact ih (stepI_pv c h)
theorem endI_len (s : List Int) : (endI s).length ≤ 1 := by unfold endI; split <;> simp
theorem stepI_len (s : List Int) (c : Int) : (stepI s c).2.length ≤ 2 := by
  have := endI_len s
  unfold stepI
  repeat' split
  all_goals simp
  all_goals omega
theorem feedI_len (t : List Int) : ∀ s : List Int, (feedI s t).2.length ≤ 2 * t.length := by
  induction t with
  | nil => intro s; simp [feedI]
  | cons c t ih =>
    intro s
    have := ih (stepI s c).1
    have := stepI_len s c
    simp [feedI]
    omega
def decI (t : List Int) : List Int := (feedI [] t).2 ++ endI (feedI [] t).1

theorem decI_len (t : List Int) : (decI t).length ≤ 2 * t.length + 1 := by
  have := feedI_len t []
  have := endI_len (feedI [] t).1
  unfold decI
  rw [List.length_append]
  omega

end Go.Proofs.Ytdkkdicgjhjinaa
