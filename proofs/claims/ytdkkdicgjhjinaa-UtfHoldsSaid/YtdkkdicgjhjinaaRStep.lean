/-
  One byte decoded by the specification.
-/
import Derived.Test.YtdkkdicgjhjinaaBg
import Derived.Deep.RegionHeld3
import Derived.Deep.DeepMust
namespace Go.Proofs.Ytdkkdicgjhjinaa
open Go.RowKit

/-- What Begins answers for the bytes s, c. -/
def bgI (s : List Int) (c : Int) : Bool × Bool :=
  if s = [] then (decide (1 ≤ lenI c), decide (lenI c = 1)) else (goesB s c, goesB s c && decide ((s.length : Int) + 1 = lenI (s.getD 0 0)))

theorem beq_dec (a b : Int) : (a == b) = decide (a = b) := by
  rw [Bool.eq_iff_iff, beq_iff_eq, decide_eq_true_iff]

theorem Begins_search (l : List Int) (n : Nat) (h : Lead l n) (k0 : Nat) (hk : (k0 : Int) < spn (n - l.length) ∧ k0 % 64 = 0 ∧ okR (valTo l n (n - 1) + k0) n = true) (w : World) (b : Nat) (A : Option Addr) (cap : Nat) (hr : Rd w b A l.length (B8 l)) :
    Calls Try.prog 28 #[.slice A l.length cap] w fun e w' => e = .returned (.tuple #[.bool true, .bool (decide ((l.length : Int) = n))]) ∧ New w w' := by
  rw [← beq_dec]
  exact Begins_yes l n h k0 hk.1 hk.2.1 hk.2.2 w b A cap hr

theorem Begins_any (s : List Int) (c : Int) (hs : PV s) (w : World) (b : Nat) (A : Option Addr) (cap : Nat) (hr : Rd w b A (s ++ [c]).length (B8 (s ++ [c]))) :
    Calls Try.prog 28 #[.slice A (s ++ [c]).length cap] w fun e w' => e = .returned (.tuple #[.bool (bgI s c).1, .bool (bgI s c).2]) ∧ New w w' := by
  have hc := lenI_le c
  by_cases h0 : s = []
  · subst h0
    rcases (by omega : lenI c = 0 ∨ lenI c = 1 ∨ 2 ≤ lenI c) with hl | hl | hl
    · have e : bgI [] c = (false, false) := by unfold bgI; rw [if_pos rfl, hl]; rfl
      rw [e]
      exact Begins_none c hl w b A cap hr
    · have e : bgI [] c = (true, true) := by unfold bgI; rw [if_pos rfl, hl]; rfl
      rw [e]
      exact Begins_one c hl w b A cap hr
    · obtain ⟨n, hn⟩ : ∃ n : Nat, lenI c = n := ⟨(lenI c).toNat, by omega⟩
      have e : bgI [] c = (true, decide (((1 : Nat) : Int) = n)) := by
        unfold bgI
        rw [if_pos rfl, hn]
        simp
        omega
      rw [e]
      obtain ⟨k0, hk⟩ := yes1 c n hn (by omega) (by omega)
      exact Begins_search [c] n (lead1 (by omega) hn) k0 hk w b A cap hr
  · obtain ⟨n, hL, hsn, hn⟩ := hs.lead h0
    have hn4 := hL.2.2.2.1
    have e0 : bgI s c = (goesB s c, goesB s c && decide (((s ++ [c]).length : Int) = n)) := by
      unfold bgI
      rw [if_neg h0, hn]
      simp
    rw [e0]
    by_cases hf : furB c = true
    · have hcb : 128 ≤ c ∧ c ≤ 191 := by unfold furB at hf; have := of_decide_eq_true hf; omega
      have hL' := hL.snoc hsn hcb
      by_cases hg : goesB s c = true
      · rw [hg, Bool.true_and]
        have hex : ∃ k0 : Nat, (k0 : Int) < spn (n - (s ++ [c]).length) ∧ k0 % 64 = 0 ∧ okR (valTo (s ++ [c]) n (n - 1) + k0) n = true := by
          match s, hs, h0 with
          | [a], _, _ => exact yes2 a c n hn hL.2.2.1 hn4 hg
          | [a, d], hs, _ => exact yes3 a d c n hn (by simp at hsn; omega) hn4 hs.2 hcb
          | [a, d, f], hs, _ =>
            obtain rfl : n = 4 := by simp at hsn; omega
            exact ⟨0, (by decide : (0 : Int) < spn 0), rfl, yes4 a d f c hn hs.2.1 (goesB2 hs.2.2) hcb⟩
        obtain ⟨k0, hk⟩ := hex
        exact Begins_search (s ++ [c]) n hL' k0 hk w b A cap hr
      · have hg : goesB s c = false := by simpa using hg
        rw [hg, Bool.false_and]
        refine Begins_no (s ++ [c]) n hL' ?_ w b A cap hr
        match s, hs, h0 with
        | [a], _, _ => exact fun k hk => no2 a c n hn hL.2.2.1 hn4 hcb hg k hk
        | [a, d], hs, _ => simp [goesB] at hg; omega
        | [a, d, f], hs, _ => simp [goesB] at hg; omega
    · have hf : furB c = false := by simpa using hf
      have hg : goesB s c = false := by
        rw [← Bool.not_eq_true]
        intro hg
        have : 128 ≤ c ∧ c ≤ 191 := by
          match s, hs, h0 with
          | [a], _, _ => exact goesB1 hg
          | [a, d], _, _ => exact goesB2 hg
          | [a, d, f], _, _ => exact goesB2 hg
        unfold furB at hf
        have := of_decide_eq_false hf
        omega
      rw [hg, Bool.false_and]
      have hl : (s ++ [c]).length = s.length + 1 := by simp
      rw [hl] at hr ⊢
      exact Begins_bad s c n hL hsn hf w b A cap hr

set_option maxHeartbeats 800000 in
theorem Rune_one (c : Int) (c0 : 0 ≤ c) (c1 : c < 256) (w : World) (b : Nat) (A : Option Addr) (cap : Nat) (hr : Rd w b A 1 (B8 [c])) :
    Calls Try.prog 29 #[.slice A 1 cap] w fun e w' => e = .returned (.int .i32 c) ∧ New w w' := by
  obtain ⟨o, rfl, h0⟩ := hr.at_ (show 0 < 1 by omega)
  have h1 : w.cell? ⟨b, o, none⟩ = some (.int .u8 c) := by simpa [B8] using h0
  clear hr h0
  go_enter Try.func29, Try.ntmps29
  go_wp2
  go_ret
  exact ⟨rfl, Fr.refl _ _⟩

set_option maxHeartbeats 800000 in
theorem Rune_many (l : List Int) (h : Lead l l.length) (w : World) (b : Nat) (A : Option Addr) (cap : Nat) (hr : Rd w b A l.length (B8 l)) :
    Calls Try.prog 29 #[.slice A l.length cap] w fun e w' => e = .returned (.int .i32 (runeOf l)) ∧ New w w' := by
  have HE := Lib.hid (full_val h rfl)
  have hv := valTo_small h (show l.length - 1 ≤ 3 by have := h.2.2.2.1; omega)
  have i1 : ((l.length : Int) == 1) = false := by rw [beq_eq_false_iff_ne]; have := h.2.2.1; omega
  have H := Lib.hid h
  have HR := Lib.hid hr
  clear h hr
  go_enter Try.func29, Try.ntmps29
  go_wp2_with (go_at_call 36; go_must (refine (Value_any l l.length H.out _ b A _ HR.out).mono ?_); rintro e w1 ⟨rfl, hf1⟩; have HF := Lib.hid hf1; clear hf1)
  go_ret
  exact ⟨ret_int HE.out, HF.out⟩

end Go.Proofs.Ytdkkdicgjhjinaa
