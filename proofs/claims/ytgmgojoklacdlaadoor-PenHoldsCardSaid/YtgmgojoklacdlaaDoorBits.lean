/-
  Sets of flags, bit by bit.
-/
import Derived.Test.YtgmgojoklacdlaaDoorFlag
import Derived.Test.YtgmgojoklacdlaaDoorNames
namespace Go.Proofs.YtgmgojoklacdlaaDoor
open Go.RowKit

theorem u8_wraps (n : Int) (h0 : 0 ≤ n) (h1 : n < 2 ^ 8) : IntKind.u8.wrap n = n := by rw [IntKind.wrap_u8]; omega
theorem flagAt_cast (m : Nat) : flagAt m = ((2 ^ m : Nat) : Int) := by simp [flagAt]
theorem two_lt {m : Nat} (hm : m < 8) : 2 ^ m < 2 ^ 8 := Nat.pow_lt_pow_right (by decide) hm
theorem or_bits (F m : Nat) (hF : F < 256) (hm : m < 8) : bits .or .u8 (F : Int) (flagAt m) = ((F ||| 2 ^ m : Nat) : Int) := by
  rw [flagAt_cast]
  exact (bits_nat .u8 8 (by decide) u8_wraps F (2 ^ m) hF (two_lt hm)).2
theorem and_bits (F m : Nat) (hF : F < 256) (hm : m < 8) : bits .and .u8 (F : Int) (flagAt m) = ((F &&& 2 ^ m : Nat) : Int) := by
  rw [flagAt_cast]
  exact (bits_nat .u8 8 (by decide) u8_wraps F (2 ^ m) hF (two_lt hm)).1
theorem or_lt (F m : Nat) (hF : F < 256) (hm : m < 8) : F ||| 2 ^ m < 256 := Nat.or_lt_two_pow (n := 8) hF (two_lt hm)
theorem and_zero (F m : Nat) (h : F.testBit m = false) : F &&& 2 ^ m = 0 := by
  refine Nat.eq_of_testBit_eq fun j => ?_
  rw [Nat.testBit_and, Nat.testBit_two_pow, Nat.zero_testBit]
  by_cases e : m = j
  · subst e
    rw [h]
    rfl
  · simp [e]
theorem and_one (F m : Nat) (h : F.testBit m = true) : F &&& 2 ^ m ≠ 0 := by
  intro e
  have h1 := congrArg (fun n => n.testBit m) e
  simp [Nat.testBit_and, h] at h1
theorem has_bit (F m : Nat) (hF : F < 256) (hm : m < 8) : hasB (F : Int) (flagAt m) = F.testBit m := by
  unfold hasB
  rw [flagAt_flag m hm, and_bits F m hF hm, Bool.true_and]
  cases h : F.testBit m
  · rw [and_zero F m h]
    rfl
  · have := and_one F m h
    simp only [bne_iff_ne, ne_eq]
    exact fun h => this (by exact_mod_cast h)

/-- Whether flag j was given. -/
def setB (s : List Nat) (j : Nat) : Bool := s.any fun n => n % 8 == j
structure Fl (F : Nat) (s : List Nat) : Prop where
  lt : F < 256
  at_ : ∀ j, j < 8 → F.testBit j = setB s j
theorem Fl.nil : Fl 0 [] := ⟨by decide, fun j _ => by simp [setB]⟩
theorem setB_one (n j : Nat) : setB [n] j = (n % 8 == j) := by simp [setB]
theorem setB_append (s t : List Nat) (j : Nat) : setB (s ++ t) j = (setB s j || setB t j) := by simp [setB]
theorem Fl.or {F : Nat} {s : List Nat} (h : Fl F s) {n m : Nat} (hm : n % 8 = m) : Fl (F ||| 2 ^ m) (s ++ [n]) := by
  have hm8 : m < 8 := by omega
  refine ⟨or_lt F m h.lt hm8, fun j hj => ?_⟩
  rw [Nat.testBit_or, h.at_ j hj, setB_append, setB_one, hm, Nat.testBit_two_pow]
  congr 1
theorem Fl.or' {F : Nat} {s : List Nat} (h : Fl F s) {n m : Nat} (hm : n % 8 = m) : Fl (F ||| 2 ^ m) (n :: s) := by
  have h1 := h.or hm
  refine ⟨h1.lt, fun j hj => ?_⟩
  rw [h1.at_ j hj, setB_append, show n :: s = [n] ++ s from rfl, setB_append, Bool.or_comm]
theorem Fl.eq {F G : Nat} {s : List Nat} (h : Fl F s) (k : Fl G s) : F = G := by
  refine Nat.eq_of_testBit_eq fun j => ?_
  rcases Nat.lt_or_ge j 8 with hj | hj
  · rw [h.at_ j hj, k.at_ j hj]
  · have e : ∀ F, F < 256 → F.testBit j = false := fun F hF => Nat.testBit_lt_two_pow (Nat.lt_of_lt_of_le hF (by
      have := Nat.pow_le_pow_right (n := 2) (by decide) hj
      simpa using this))
    rw [e F h.lt, e G k.lt]

theorem take_step (l : List Nat) (k : Nat) (hk : k < l.length) : l.take (k + 1) = l.take k ++ [l[k]] := by
  rw [List.take_add_one, List.getElem?_eq_getElem hk]
  rfl
theorem drop_step (l : List Nat) (k : Nat) (hk : k < l.length) : l.drop (l.length - (k + 1)) = l[l.length - 1 - k]'(by omega) :: l.drop (l.length - k) := by
  have e : l.length - (k + 1) = l.length - 1 - k := by omega
  have e2 : l.length - k = l.length - 1 - k + 1 := by omega
  rw [e, e2]
  exact List.drop_eq_getElem_cons (by omega)

/-- What the eight booleans hold. -/
def thereV (s : List Nat) : Array Value := #[.bool (setB s 0), .bool (setB s 1), .bool (setB s 2), .bool (setB s 3), .bool (setB s 4), .bool (setB s 5), .bool (setB s 6), .bool (setB s 7)]
theorem thereV_at (s : List Nat) : ∀ j, j < 8 → (thereV s)[j]? = some (.bool (setB s j)) := by
  intro n hn
  have h : n = 0 ∨ n = 1 ∨ n = 2 ∨ n = 3 ∨ n = 4 ∨ n = 5 ∨ n = 6 ∨ n = 7 := by omega
  rcases h with rfl | rfl | rfl | rfl | rfl | rfl | rfl | rfl <;> rfl
theorem thereV_size (s : List Nat) : (thereV s).size = 8 := rfl
theorem thereV_set (s : List Nat) (n m : Nat) (hm : n % 8 = m) : (thereV s).setIfInBounds m (.bool true) = thereV (s ++ [n]) := by
  refine Array.ext_getElem? fun j => ?_
  have hm8 : m < 8 := by omega
  rcases Nat.lt_or_ge j 8 with hj | hj
  · rw [Array.getElem?_setIfInBounds, thereV_at _ j hj]
    by_cases e : m = j
    · subst e
      rw [if_pos rfl, thereV_size, if_pos hm8, thereV_at _ m hm8, setB_append, setB_one, hm]
      simp
    · rw [if_neg e, thereV_at _ j hj, setB_append, setB_one, hm]
      simp [e]
  · rw [Array.getElem?_eq_none (by simp [thereV_size]; exact hj), Array.getElem?_eq_none (by simp [thereV_size]; exact hj)]
theorem flags8_at : ∀ k, k < 8 → (flagsV 8)[k]? = some (.int .u8 (flagAt k)) := by
  intro n hn
  have h : n = 0 ∨ n = 1 ∨ n = 2 ∨ n = 3 ∨ n = 4 ∨ n = 5 ∨ n = 6 ∨ n = 7 := by omega
  rcases h with rfl | rfl | rfl | rfl | rfl | rfl | rfl | rfl <;> rfl

end Go.Proofs.YtgmgojoklacdlaaDoor
