/-
  What follows for the decoder's numbers: runes are valid, and are the bytes again.
-/
import Derived.Test.YtdkkdicgjhjinaaBg
namespace Go.Proofs.Ytdkkdicgjhjinaa
open Go.RowKit

theorem encV_of {r : Int} (h : validB r = true) : encV r = encOne r := by unfold encV; rw [if_pos h]

theorem rune2 {a c : Int} (ha : lenI a = 2) (hg : goesB [a] c = true) : validB (runeOf [a, c]) = true ∧ encOne (runeOf [a, c]) = [a, c] := by
  have h1 := lenI_2 ha
  have h2 := goesB1 hg
  have e : runeOf [a, c] = (a - 192) * 64 + (c - 128) := by show (a % 64) * 64 + c % 64 = _; omega
  rw [e]
  refine ⟨validB_iff.2 (by omega), ?_⟩
  unfold encOne
  rw [if_neg (by omega), if_pos (by omega)]
  congr 1
  · omega
  · congr 1; omega
theorem rune3 {a b c : Int} (ha : lenI a = 3) (hg : goesB [a] b = true) (hc : 128 ≤ c ∧ c ≤ 191) : validB (runeOf [a, b, c]) = true ∧ encOne (runeOf [a, b, c]) = [a, b, c] := by
  have h1 := lenI_3 ha
  have h2 := goesB1 hg
  have hs := sec_of hg
  unfold secLo secHi at hs
  have e : runeOf [a, b, c] = ((a - 224) * 64 + (b - 128)) * 64 + (c - 128) := by show ((a % 32) * 64 + b % 64) * 64 + c % 64 = _; omega
  rw [e]
  have hr : 2048 ≤ ((a - 224) * 64 + (b - 128)) * 64 + (c - 128) ∧ ((a - 224) * 64 + (b - 128)) * 64 + (c - 128) < 65536 ∧ (((a - 224) * 64 + (b - 128)) * 64 + (c - 128) < 55296 ∨ 57343 < ((a - 224) * 64 + (b - 128)) * 64 + (c - 128)) := by
    (repeat' split at hs) <;> omega
  refine ⟨validB_iff.2 (by omega), ?_⟩
  unfold encOne
  rw [if_neg (by omega), if_neg (by omega), if_pos (by omega)]
  congr 1
  · omega
  · congr 1
    · omega
    · congr 1; omega
theorem rune4 {a b d c : Int} (ha : lenI a = 4) (hg : goesB [a] b = true) (hd : 128 ≤ d ∧ d ≤ 191) (hc : 128 ≤ c ∧ c ≤ 191) : validB (runeOf [a, b, d, c]) = true ∧ encOne (runeOf [a, b, d, c]) = [a, b, d, c] := by
  have h1 := lenI_4 ha
  have h2 := goesB1 hg
  have hs := sec_of hg
  unfold secLo secHi at hs
  have e : runeOf [a, b, d, c] = (((a - 240) * 64 + (b - 128)) * 64 + (d - 128)) * 64 + (c - 128) := by show (((a % 16) * 64 + b % 64) * 64 + d % 64) * 64 + c % 64 = _; omega
  rw [e]
  have hr : 65536 ≤ (((a - 240) * 64 + (b - 128)) * 64 + (d - 128)) * 64 + (c - 128) ∧ (((a - 240) * 64 + (b - 128)) * 64 + (d - 128)) * 64 + (c - 128) ≤ 1114111 := by
    (repeat' split at hs) <;> omega
  refine ⟨validB_iff.2 (by omega), ?_⟩
  unfold encOne
  rw [if_neg (by omega), if_neg (by omega), if_neg (by omega)]
  congr 1
  · omega
  · congr 1
    · omega
    · congr 1
      · omega
      · congr 1; omega

/-- The rune that a byte completes is valid, and its bytes are those that were pending, and this one. -/
theorem rune_done {s : List Int} {c : Int} (hs : PV s) (hg : goesB s c = true) (hm : ¬ (s.length : Int) + 1 < lenI (s.getD 0 0)) : validB (runeOf (s ++ [c])) = true ∧ encOne (runeOf (s ++ [c])) = s ++ [c] := by
  match s, hs with
  | [], _ => simp [goesB] at hg
  | [a], h =>
    have h : 2 ≤ lenI a := h
    have hm : ¬ (1 : Int) + 1 < lenI a := hm
    exact rune2 (by omega) hg
  | [a, b], h =>
    have h1 := h.1
    have hm : ¬ (2 : Int) + 1 < lenI a := hm
    exact rune3 (by omega) h.2 (goesB2 hg)
  | [a, b, d], h =>
    have h1 := h.1
    have h2 := (lenI_le a).2
    exact rune4 (by omega) h.2.1 (goesB2 h.2.2) (goesB2 hg)

theorem valid_bad : validB 65533 = true := by decide
theorem endI_valid (s : List Int) : ∀ x ∈ endI s, validB x = true := by
  unfold endI
  split
  · simp
  · intro x hx
    simp at hx
    subst hx
    exact valid_bad
theorem stepI_valid {s : List Int} {c : Int} (hs : PV s) (c0 : 0 ≤ c) : ∀ x ∈ (stepI s c).2, validB x = true := by
  have hc := lenI_le c
  have he := endI_valid s
  by_cases hg : goesB s c = true
  · by_cases hm : (s.length : Int) + 1 < lenI (s.getD 0 0)
    · rw [stepI_more hg hm]; simp
    · rw [stepI_done hg hm]
      intro x hx
      simp at hx
      subst hx
      exact (rune_done hs hg hm).1
  · have hg : goesB s c = false := by simpa using hg
    rcases (by omega : lenI c = 0 ∨ lenI c = 1 ∨ 2 ≤ lenI c) with hl | hl | hl
    · rw [stepI_bad hg hl]
      intro x hx
      simp at hx
      rcases hx with hx | rfl
      · exact he x hx
      · exact valid_bad
    · rw [stepI_one hg hl]
      intro x hx
      simp at hx
      have := lenI_one hl
      rcases hx with hx | rfl
      · exact he x hx
      · exact validB_iff.2 (by omega)
    · rw [stepI_new hg hl]; exact he
theorem feedI_valid (t : List Int) : ∀ {s : List Int}, PV s → Bytes t → ∀ x ∈ (feedI s t).2, validB x = true := by
  induction t with
  | nil => intro s _ _ x hx; simp [feedI] at hx
  | cons c t ih =>
    intro s hs hb x hx
    simp only [feedI, List.mem_append] at hx
    rcases hx with hx | hx
    · exact stepI_valid hs (hb c (by simp)).1 x hx
    · exact ih (stepI_pv c hs) (fun y hy => hb y (by simp [hy])) x hx

/-- Where no bytes are pending at the end, and Bad is not among the runes, their bytes are what was decoded. -/
theorem feedI_back (t : List Int) : ∀ {s : List Int}, PV s → Bytes t → (feedI s t).1 = [] → 65533 ∉ (feedI s t).2 → encL (feedI s t).2 = s ++ t := by
  induction t with
  | nil => intro s _ _ h _; simp [feedI] at h; subst h; simp [feedI, encL]
  | cons c t ih =>
    intro s hs hb h1 h2
    have hbt : Bytes t := fun y hy => hb y (by simp [hy])
    have c0 := (hb c (by simp)).1
    simp only [feedI] at h1 h2 ⊢
    have hr := ih (stepI_pv c hs) hbt h1 (fun h => h2 (by simp [h]))
    have h3 : 65533 ∉ (stepI s c).2 := fun h => h2 (by simp [h])
    have key : encL (stepI s c).2 ++ (stepI s c).1 = s ++ [c] := by
      have hc := lenI_le c
      by_cases hg : goesB s c = true
      · by_cases hm : (s.length : Int) + 1 < lenI (s.getD 0 0)
        · rw [stepI_more hg hm]; simp [encL]
        · rw [stepI_done hg hm]
          have := rune_done hs hg hm
          simp [encL, encV_of this.1, this.2]
      · have hg : goesB s c = false := by simpa using hg
        have hs0 : endI s = [] → s = [] := by
          unfold endI
          split
          · intro _; assumption
          · intro h; cases h
        have he : 65533 ∉ endI s → endI s = [] := by
          unfold endI
          split
          · intro _; rfl
          · intro h; simp at h
        rcases (by omega : lenI c = 0 ∨ lenI c = 1 ∨ 2 ≤ lenI c) with hl | hl | hl
        · rw [stepI_bad hg hl] at h3; simp at h3
        · rw [stepI_one hg hl] at h3 ⊢
          have := lenI_one hl
          simp at h3
          have e := he h3.1
          have e2 := hs0 e
          subst e2
          rw [e]
          have hv : validB c = true := validB_iff.2 (by omega)
          simp [encL, encV_of hv, encOne, this]
        · rw [stepI_new hg hl] at h3 ⊢
          have e := he h3
          have e2 := hs0 e
          subst e2
          rw [e]
          simp [encL]
    have e : encL ((stepI s c).2 ++ (feedI (stepI s c).1 t).2) = encL (stepI s c).2 ++ encL (feedI (stepI s c).1 t).2 := by simp [encL]
    rw [e, hr, ← List.append_assoc, key]
    simp

theorem stepI_first {c : Int} (hl : 2 ≤ lenI c) : stepI [] c = ([c], []) := by rw [stepI_new rfl hl]; rfl
/-- The bytes of a valid rune are decoded to it. -/
theorem feedI_enc {r : Int} (hv : validB r = true) : feedI [] (encOne r) = ([], [r]) := by
  have hb := validB_iff.1 hv
  unfold encOne
  by_cases h1 : r < 128
  · rw [if_pos h1]
    have hl : lenI r = 1 := by unfold lenI; rw [if_pos h1]
    simp only [feedI]
    rw [stepI_one rfl hl]
    rfl
  · rw [if_neg h1]
    by_cases h2 : r < 2048
    · rw [if_pos h2]
      have hl : lenI (192 + r / 64) = 2 := by unfold lenI; repeat' split
                                              all_goals omega
      have hg : goesB [192 + r / 64] (128 + r % 64) = true := by
        show decide _ = true
        rw [decide_eq_true_iff]
        unfold secLo secHi
        repeat' split
        all_goals omega
      simp only [feedI]
      rw [stepI_first (by omega)]
      simp only []
      rw [stepI_done hg (by simp [hl])]
      simp [runeOf]
      omega
    · rw [if_neg h2]
      by_cases h3 : r < 65536
      · rw [if_pos h3]
        have hl : lenI (224 + r / 4096) = 3 := by unfold lenI; repeat' split
                                                  all_goals omega
        have hg : goesB [224 + r / 4096] (128 + r / 64 % 64) = true := by
          show decide _ = true
          rw [decide_eq_true_iff]
          unfold secLo secHi
          repeat' split
          all_goals omega
        have hg2 : goesB [224 + r / 4096, 128 + r / 64 % 64] (128 + r % 64) = true := by
          show decide _ = true
          rw [decide_eq_true_iff]
          omega
        simp only [feedI]
        rw [stepI_first (by omega)]
        simp only []
        rw [stepI_more hg (by simp [hl])]
        simp only [List.cons_append, List.nil_append]
        rw [stepI_done hg2 (by simp [hl])]
        simp [runeOf]
        omega
      · rw [if_neg h3]
        have hl : lenI (240 + r / 262144) = 4 := by unfold lenI; repeat' split
                                                    all_goals omega
        have hg : goesB [240 + r / 262144] (128 + r / 4096 % 64) = true := by
          show decide _ = true
          rw [decide_eq_true_iff]
          unfold secLo secHi
          repeat' split
          all_goals omega
        have hg2 : goesB [240 + r / 262144, 128 + r / 4096 % 64] (128 + r / 64 % 64) = true := by
          show decide _ = true
          rw [decide_eq_true_iff]
          omega
        have hg3 : goesB [240 + r / 262144, 128 + r / 4096 % 64, 128 + r / 64 % 64] (128 + r % 64) = true := by
          show decide _ = true
          rw [decide_eq_true_iff]
          omega
        simp only [feedI]
        rw [stepI_first (by omega)]
        simp only []
        rw [stepI_more hg (by simp [hl])]
        simp only [List.cons_append, List.nil_append]
        rw [stepI_more hg2 (by simp [hl])]
        simp only [List.cons_append, List.nil_append]
        rw [stepI_done hg3 (by simp [hl])]
        simp [runeOf]
        omega
theorem feedI_encL (l : List Int) (h : ∀ x ∈ l, validB x = true) : feedI [] (encL l) = ([], l) := by
  induction l with
  | nil => rfl
  | cons r l ih =>
    have hr := h r (by simp)
    have e : encL (r :: l) = encOne r ++ encL l := by simp [encL, encV_of hr]
    rw [e, feedI_append, feedI_enc hr, ih (fun x hx => h x (by simp [hx]))]
    rfl
theorem decI_encL (l : List Int) (h : ∀ x ∈ l, validB x = true) : decI (encL l) = l := by
  unfold decI
  rw [feedI_encL l h]
  simp [endI]

/-- One if bytes are pending. -/
def one (s : List Int) : Nat := (endI s).length
theorem one_nil : one [] = 0 := rfl
theorem one_le (s : List Int) : one s ≤ 1 := endI_len s
theorem stepI_count {s : List Int} (c : Int) : (stepI s c).2.length + one (stepI s c).1 ≤ one s + 1 := by
  have hc := lenI_le c
  by_cases hg : goesB s c = true
  · have h1 : one s = 1 := by
      unfold one endI
      split
      · subst_vars; simp [goesB] at hg
      · rfl
    by_cases hm : (s.length : Int) + 1 < lenI (s.getD 0 0)
    · rw [stepI_more hg hm]; have := one_le (s ++ [c]); simp; omega
    · rw [stepI_done hg hm]; simp [one_nil]
  · have hg : goesB s c = false := by simpa using hg
    rcases (by omega : lenI c = 0 ∨ lenI c = 1 ∨ 2 ≤ lenI c) with hl | hl | hl
    · rw [stepI_bad hg hl]; have := one_nil; simp only [List.length_append, List.length_cons, List.length_nil]; unfold one at *; omega
    · rw [stepI_one hg hl]; have := one_nil; simp only [List.length_append, List.length_cons, List.length_nil]; unfold one at *; omega
    · rw [stepI_new hg hl]; have := one_le [c]; simp [one] at *; omega
theorem feedI_count (t : List Int) : ∀ s : List Int, (feedI s t).2.length + one (feedI s t).1 ≤ one s + t.length := by
  induction t with
  | nil => intro s; simp [feedI]
  | cons c t ih =>
    intro s
    have h1 := ih (stepI s c).1
    have h2 := stepI_count (s := s) c
    simp only [feedI, List.length_append, List.length_cons]
    omega

end Go.Proofs.Ytdkkdicgjhjinaa
