/-
  What the specification's search finds for bytes that may be pending, and one more.
-/
import Derived.Test.YtdkkdicgjhjinaaBegins
namespace Go.Proofs.Ytdkkdicgjhjinaa
open Go.RowKit

theorem okR2 {r : Int} (h : 128 ≤ r) (h' : r < 2048) : okR r 2 = true := by
  unfold okR
  rw [Bool.and_eq_true, validB_iff, beq_iff_eq]
  unfold rlen
  exact ⟨by omega, by rw [if_neg (by omega), if_pos (by omega)]; rfl⟩
theorem okR3 {r : Int} (h : 2048 ≤ r) (h' : r < 65536) (hs : r < 55296 ∨ 57343 < r) : okR r 3 = true := by
  unfold okR
  rw [Bool.and_eq_true, validB_iff, beq_iff_eq]
  unfold rlen
  exact ⟨by omega, by rw [if_neg (by omega), if_neg (by omega), if_pos (by omega)]; rfl⟩
theorem okR4 {r : Int} (h : 65536 ≤ r) (h' : r ≤ 1114111) : okR r 4 = true := by
  unfold okR
  rw [Bool.and_eq_true, validB_iff, beq_iff_eq]
  unfold rlen
  exact ⟨by omega, by rw [if_neg (by omega), if_neg (by omega), if_neg (by omega)]; rfl⟩
theorem okR3n {r : Int} (h : r < 2048 ∨ 55296 ≤ r ∧ r ≤ 57343) : okR r 3 = false := by
  rw [← Bool.not_eq_true]
  unfold okR
  rw [Bool.and_eq_true, validB_iff, beq_iff_eq]
  rintro ⟨h1, h2⟩
  rcases h with h | h
  · unfold rlen at h2
    repeat' split at h2
    all_goals first | omega | simp at h2
  · omega
theorem okR4n {r : Int} (h : r < 65536 ∨ 1114111 < r) : okR r 4 = false := by
  rw [← Bool.not_eq_true]
  unfold okR
  rw [Bool.and_eq_true, validB_iff, beq_iff_eq]
  rintro ⟨h1, h2⟩
  rcases h with h | h
  · unfold rlen at h2
    rw [if_pos h] at h2
    repeat' split at h2
    all_goals simp at h2
  · omega

theorem lenI_2 {a : Int} (h : lenI a = 2) : 194 ≤ a ∧ a < 224 := by
  unfold lenI at h
  repeat' split at h
  all_goals omega
theorem lenI_3 {a : Int} (h : lenI a = 3) : 224 ≤ a ∧ a < 240 := by
  unfold lenI at h
  repeat' split at h
  all_goals omega
theorem lenI_4 {a : Int} (h : lenI a = 4) : 240 ≤ a ∧ a < 245 := by
  unfold lenI at h
  repeat' split at h
  all_goals omega

theorem yes1 (c : Int) (n : Nat) (hn : lenI c = n) (h2 : 2 ≤ n) (h4 : n ≤ 4) : ∃ k0 : Nat, (k0 : Int) < spn (n - 1) ∧ k0 % 64 = 0 ∧ okR (valTo [c] n (n - 1) + k0) n = true := by
  rcases (by omega : n = 2 ∨ n = 3 ∨ n = 4) with rfl | rfl | rfl
  · have := lenI_2 (a := c) (by simpa using hn)
    refine ⟨0, by decide, rfl, okR2 ?_ ?_⟩ <;> simp [valTo, firstI] <;> omega
  · have := lenI_3 (a := c) (by simpa using hn)
    by_cases h : c = 224
    · subst h
      exact ⟨2048, by decide, rfl, by decide⟩
    · refine ⟨0, by decide, rfl, okR3 ?_ ?_ ?_⟩ <;> simp [valTo, firstI] <;> omega
  · have := lenI_4 (a := c) (by simpa using hn)
    by_cases h : c = 240
    · subst h
      exact ⟨65536, by decide, rfl, by decide⟩
    · refine ⟨0, by decide, rfl, okR4 ?_ ?_⟩ <;> simp [valTo, firstI] <;> omega

theorem sec_of {a b : Int} (h : goesB [a] b = true) : secLo a ≤ b ∧ b ≤ secHi a := of_decide_eq_true h

theorem yes2 (a c : Int) (n : Nat) (hn : lenI a = n) (h2 : 2 ≤ n) (h4 : n ≤ 4) (hg : goesB [a] c = true) : ∃ k0 : Nat, (k0 : Int) < spn (n - 2) ∧ k0 % 64 = 0 ∧ okR (valTo [a, c] n (n - 1) + k0) n = true := by
  have hc := goesB1 hg
  have hs := sec_of hg
  unfold secLo secHi at hs
  refine ⟨0, by have := spn_le (n - 2); omega, rfl, ?_⟩
  rcases (by omega : n = 2 ∨ n = 3 ∨ n = 4) with rfl | rfl | rfl
  · have := lenI_2 (a := a) (by simpa using hn)
    refine okR2 ?_ ?_ <;> simp [valTo, firstI] <;> omega
  · have := lenI_3 (a := a) (by simpa using hn)
    refine okR3 ?_ ?_ ?_ <;> simp [valTo, firstI] <;> (repeat' split at hs) <;> omega
  · have := lenI_4 (a := a) (by simpa using hn)
    refine okR4 ?_ ?_ <;> simp [valTo, firstI] <;> (repeat' split at hs) <;> omega

theorem yes3 (a b c : Int) (n : Nat) (hn : lenI a = n) (h3 : 3 ≤ n) (h4 : n ≤ 4) (hg : goesB [a] b = true) (hc : 128 ≤ c ∧ c ≤ 191) : ∃ k0 : Nat, (k0 : Int) < spn (n - 3) ∧ k0 % 64 = 0 ∧ okR (valTo [a, b, c] n (n - 1) + k0) n = true := by
  have hb := goesB1 hg
  have hs := sec_of hg
  unfold secLo secHi at hs
  refine ⟨0, by have := spn_le (n - 3); omega, rfl, ?_⟩
  rcases (by omega : n = 3 ∨ n = 4) with rfl | rfl
  · have := lenI_3 (a := a) (by simpa using hn)
    refine okR3 ?_ ?_ ?_ <;> simp [valTo, firstI] <;> (repeat' split at hs) <;> omega
  · have := lenI_4 (a := a) (by simpa using hn)
    refine okR4 ?_ ?_ <;> simp [valTo, firstI] <;> (repeat' split at hs) <;> omega

theorem yes4 (a b d c : Int) (hn : lenI a = 4) (hg : goesB [a] b = true) (hd : 128 ≤ d ∧ d ≤ 191) (hc : 128 ≤ c ∧ c ≤ 191) : okR (valTo [a, b, d, c] 4 3 + (0 : Nat)) 4 = true := by
  have hb := goesB1 hg
  have hs := sec_of hg
  unfold secLo secHi at hs
  have := lenI_4 hn
  refine okR4 ?_ ?_ <;> simp [valTo, firstI] <;> (repeat' split at hs) <;> omega

theorem no2 (a c : Int) (n : Nat) (hn : lenI a = n) (h2 : 2 ≤ n) (h4 : n ≤ 4) (hf : 128 ≤ c ∧ c ≤ 191) (hg : goesB [a] c = false) (k : Nat) (hk : (k : Int) < spn (n - 2)) : okR (valTo [a, c] n (n - 1) + k) n = false := by
  have hs : ¬ (secLo a ≤ c ∧ c ≤ secHi a) := of_decide_eq_false hg
  unfold secLo secHi at hs
  rcases (by omega : n = 2 ∨ n = 3 ∨ n = 4) with rfl | rfl | rfl
  · have := lenI_2 (a := a) (by simpa using hn)
    (repeat' split at hs) <;> omega
  · have := lenI_3 (a := a) (by simpa using hn)
    have hk : (k : Int) < 64 := hk
    refine okR3n ?_
    simp [valTo, firstI]
    (repeat' split at hs) <;> omega
  · have := lenI_4 (a := a) (by simpa using hn)
    have hk : (k : Int) < 4096 := hk
    refine okR4n ?_
    simp [valTo, firstI]
    (repeat' split at hs) <;> omega

theorem full_val {l : List Int} {n : Nat} (h : Lead l n) (hl : l.length = n) : valTo l n (n - 1) = runeOf l := by
  obtain ⟨_, _, h2, h4, hn, hf⟩ := h
  match l, hl with
  | [a, b], rfl =>
    have h1 := lenI_2 (a := a) (by simpa using hn)
    have h2 := hf 1 (by simp) (by simp)
    simp at h2
    simp [valTo, firstI, runeOf]
    omega
  | [a, b, c], rfl =>
    have h1 := lenI_3 (a := a) (by simpa using hn)
    have h2 := hf 1 (by simp) (by simp)
    have h3 := hf 2 (by simp) (by simp)
    simp at h2 h3
    simp [valTo, firstI, runeOf]
    omega
  | [a, b, c, d], rfl =>
    have h1 := lenI_4 (a := a) (by simpa using hn)
    have h2 := hf 1 (by simp) (by simp)
    have h3 := hf 2 (by simp) (by simp)
    have h4 := hf 3 (by simp) (by simp)
    simp at h2 h3 h4
    simp [valTo, firstI, runeOf]
    omega
  | [], rfl => simp at h2
  | [_], rfl => simp at h2
  | _ :: _ :: _ :: _ :: _ :: _, rfl => simp at h4

theorem lead1 {a : Int} {n : Nat} (h2 : 2 ≤ n) (hn : lenI a = n) : Lead [a] n := by
  have := lenI_le a
  exact ⟨Nat.le_refl 1, (by omega : 1 ≤ n), h2, by omega, by simpa using hn, fun j h1 h2 => absurd (show j < 1 from h2) (by omega)⟩
theorem Lead.snoc {s : List Int} {n : Nat} (h : Lead s n) (hs : s.length < n) {c : Int} (hc : 128 ≤ c ∧ c ≤ 191) : Lead (s ++ [c]) n := by
  obtain ⟨h1, _, h2, h4, hn, hf⟩ := h
  refine ⟨by simp, by simp; omega, h2, h4, ?_, fun j hj hj' => ?_⟩
  · rw [← hn]
    congr 1
    obtain ⟨x, t, rfl⟩ := List.exists_cons_of_length_pos (show 0 < s.length by omega)
    rfl
  · simp at hj'
    by_cases hjs : j < s.length
    · have := hf j hj hjs
      simpa [List.getD, List.getElem?_append_left hjs] using this
    · obtain rfl : j = s.length := by omega
      simpa [List.getD] using hc
theorem PV.lead {s : List Int} (h : PV s) (hs : s ≠ []) : ∃ n : Nat, Lead s n ∧ s.length < n ∧ lenI (s.getD 0 0) = n := by
  match s, h with
  | [a], h =>
    have := lenI_le a
    obtain ⟨n, hn⟩ : ∃ n : Nat, lenI a = n := ⟨(lenI a).toNat, by omega⟩
    have h' : 2 ≤ lenI a := h
    exact ⟨n, lead1 (by omega) hn, by simp; omega, by simpa using hn⟩
  | [a, b], h =>
    have := lenI_le a
    obtain ⟨n, hn⟩ : ∃ n : Nat, lenI a = n := ⟨(lenI a).toNat, by omega⟩
    have h' := h.1
    exact ⟨n, Lead.snoc (s := [a]) (lead1 (by omega) hn) (by simp; omega) (goesB1 h.2), by simp; omega, by simpa using hn⟩
  | [a, b, d], h =>
    have := lenI_le a
    obtain ⟨n, hn⟩ : ∃ n : Nat, lenI a = n := ⟨(lenI a).toNat, by omega⟩
    have h' := h.1
    exact ⟨n, Lead.snoc (s := [a, b]) (Lead.snoc (s := [a]) (lead1 (by omega) hn) (by simp; omega) (goesB1 h.2.1)) (by simp; omega) (goesB2 h.2.2), by simp; omega, by simpa using hn⟩

end Go.Proofs.Ytdkkdicgjhjinaa
