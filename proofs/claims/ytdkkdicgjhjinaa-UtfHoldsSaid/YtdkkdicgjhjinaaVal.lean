/-
  The specification's small functions, and the number that bytes say.
-/
import Derived.Test.YtdkkdicgjhjinaaEnc
namespace Go.Proofs.Ytdkkdicgjhjinaa
open Go.RowKit

def furB (c : Int) : Bool := decide (128 ≤ c ∧ c < 192)
def rlen (r : Int) : Int := if r < 128 then 1 else if r < 2048 then 2 else if r < 65536 then 3 else 4
def firstI (n : Nat) : Int := if n = 2 then 192 else if n = 3 then 224 else if n = 4 then 240 else 0
/-- The number that the first bytes say, those that are missing with no bits; k + 1 of them have been gone through. -/
def valTo (l : List Int) (n : Nat) : Nat → Int
  | 0 => l.getD 0 0 - firstI n
  | k + 1 => valTo l n k * 64 + (if k + 1 < l.length then l.getD (k + 1) 0 - 128 else 0)
/-- Bytes whose first one begins a rune of n bytes, and whose others are further ones. -/
def Lead (l : List Int) (n : Nat) : Prop := 1 ≤ l.length ∧ l.length ≤ n ∧ 2 ≤ n ∧ n ≤ 4 ∧ lenI (l.getD 0 0) = n ∧ ∀ j, 1 ≤ j → j < l.length → 128 ≤ l.getD j 0 ∧ l.getD j 0 ≤ 191

theorem lead_first {l : List Int} {n : Nat} (h : Lead l n) : 0 ≤ l.getD 0 0 - firstI n ∧ l.getD 0 0 - firstI n < 32 := by
  obtain ⟨_, _, h2, h4, hl, _⟩ := h
  generalize l.getD 0 0 = a at *
  unfold lenI at hl
  unfold firstI
  rcases (by omega : n = 2 ∨ n = 3 ∨ n = 4) with rfl | rfl | rfl <;> (repeat' split at hl) <;> simp at hl ⊢ <;> omega
theorem valTo_bound {l : List Int} {n : Nat} (h : Lead l n) (k : Nat) : 0 ≤ valTo l n k ∧ valTo l n k < 32 * 64 ^ k := by
  induction k with
  | zero => have := lead_first h; simpa [valTo] using this
  | succ k ih =>
    have hp : (64 : Int) ^ (k + 1) = 64 ^ k * 64 := Int.pow_succ 64 k
    rw [hp]
    generalize (64 : Int) ^ k = p at *
    unfold valTo
    by_cases hk : k + 1 < l.length
    · have := h.2.2.2.2.2 (k + 1) (by omega) hk
      rw [if_pos hk]
      omega
    · rw [if_neg hk]
      omega
theorem valTo_small {l : List Int} {n k : Nat} (h : Lead l n) (hk : k ≤ 3) : 0 ≤ valTo l n k ∧ valTo l n k < 8388608 := by
  have := valTo_bound h k
  rcases (by omega : k = 0 ∨ k = 1 ∨ k = 2 ∨ k = 3) with rfl | rfl | rfl | rfl <;> simp at this <;> omega

set_option maxHeartbeats 400000 in
theorem RSize_any (c : Int) (w : World) :
    Calls Try.prog 34 #[.int .u8 c] w fun e w' => e = .returned (.int .i64 (lenI c)) ∧ w = w' := by
  go_enter Try.func34, Try.ntmps34
  go_wp2
  all_goals
    go_ret
    refine ⟨ret_int ?_, rfl⟩
    unfold lenI
    repeat' split
    all_goals omega

set_option maxHeartbeats 400000 in
theorem RFurther_any (c : Int) (w : World) :
    Calls Try.prog 35 #[.int .u8 c] w fun e w' => e = .returned (.bool (furB c)) ∧ w = w' := by
  go_enter Try.func35, Try.ntmps35
  go_wp2
  all_goals
    go_ret
    refine ⟨ret_bool ?_, rfl⟩
    unfold furB
    simp_all <;> omega

set_option maxHeartbeats 400000 in
theorem RLength_any (r : Int) (w : World) :
    Calls Try.prog 37 #[.int .i32 r] w fun e w' => e = .returned (.int .i64 (rlen r)) ∧ w = w' := by
  go_enter Try.func37, Try.ntmps37
  go_wp2
  all_goals
    go_ret
    refine ⟨ret_int ?_, rfl⟩
    unfold rlen
    repeat' split
    all_goals omega

set_option maxHeartbeats 1000000 in
theorem Value_any (l : List Int) (n : Nat) (h : Lead l n) (w : World) (b : Nat) (A : Option Addr) (cap : Nat) (hr : Rd w b A l.length (B8 l)) :
    Calls Try.prog 36 #[.slice A l.length cap, .int .i64 n] w fun e w' => e = .returned (.int .i64 (valTo l n (n - 1))) ∧ New w w' := by
  have HL := Lib.hid h
  obtain ⟨hl1, hln, hn2, hn4, hq1, hq2⟩ := h
  clear hq1 hq2
  obtain ⟨o, rfl, _, _⟩ := hr.2 (by omega)
  have HR := Lib.hid hr
  obtain ⟨x0, hx0⟩ : ∃ x, l.getD 0 0 = x := ⟨_, rfl⟩
  have HX := Lib.hid hx0
  have HC : Hid (∀ j, j < l.length → (w.alloc (.cells #[.int .i64 0, .int .i64 0, .int .i64 192, .int .i64 224, .int .i64 240] 3)).cell? ⟨b, o + j, none⟩ = some (.int .u8 (l.getD j 0))) := Lib.hid (by
    intro j hj
    obtain ⟨o', e, hc⟩ := (hr.new (New.alloc (a := w) _)).at_ hj
    injection e with e
    injection e with _ e
    subst e
    rw [hc]
    simp [B8, List.getD, List.getElem?_eq_getElem hj])
  have a1 : (w.alloc (.cells #[.int .i64 0, .int .i64 0, .int .i64 192, .int .i64 224, .int .i64 240] 3)).cell? ⟨b, o, none⟩ = some (.int .u8 x0) := by rw [← HX.out]; exact HC.out 0 (by omega)
  have ht : (w.alloc (.cells #[.int .i64 0, .int .i64 0, .int .i64 192, .int .i64 224, .int .i64 240] 3)).cell? ⟨w.heap.size, n, none⟩ = some (.int .i64 (firstI n)) := by
    refine (Blk.cell (Blk.new w 3 _) n).trans ?_
    rcases (by omega : n = 2 ∨ n = 3 ∨ n = 4) with rfl | rfl | rfl <;> rfl
  have hf := lead_first HL.out
  rw [hx0] at hf
  have hfi : 0 ≤ firstI n ∧ firstI n ≤ 240 := by
    unfold firstI
    repeat' split
    all_goals omega
  obtain ⟨f1, f2⟩ := hf
  obtain ⟨f3, f4⟩ := hfi
  have i0 : (0 : Int) ≤ (n : Int) := by omega
  have i1 : (n : Int) < 5 := by omega
  have i2 : (0 : Int) < (l.length : Int) := by omega
  have b0 : 0 ≤ x0 ∧ x0 ≤ 300 := by omega
  clear hr hx0
  go_enter Try.func36, Try.ntmps36
  go_wp2
  go_loop [6, 7] (fun v i => ∃ k : Nat, k + 1 ≤ n ∧ i = .int .i64 ((k : Int) + 1) ∧ v = .int .i64 (valTo l n k)) (fun _ i => n - (intOf i).toNat)
  case atStart => exact ⟨0, by omega, rfl, by show Value.int .i64 (x0 - firstI n) = .int .i64 (l.getD 0 0 - firstI n); rw [HX.out]⟩
  case round =>
    obtain ⟨k, hk, rfl, rfl⟩ := hrel
    have hv := valTo_small HL.out (show k ≤ 3 by omega)
    by_cases hlt : k + 1 < n
    · have HV : Hid (valTo l n (k + 1) = valTo l n k * 64 + (if k + 1 < l.length then l.getD (k + 1) 0 - 128 else 0)) := Lib.hid rfl
      by_cases hin : k + 1 < l.length
      · have hb := HL.out.2.2.2.2.2 (k + 1) (by omega) hin
        have hc := HC.out (k + 1) hin
        obtain ⟨y, hy⟩ : ∃ y, l.getD (k + 1) 0 = y := ⟨_, rfl⟩
        rw [hy] at hb hc
        rw [hy, if_pos hin] at HV
        clear hy
        have j1 : (k : Int) + 1 < (l.length : Int) := by omega
        have j2 : (k : Int) + 1 < (n : Int) := by omega
        go_wp2
        go_round
        case rel => exact ⟨k + 1, by omega, by go_num, by rw [HV.out]; go_num⟩
        case measure => simp [intOf]; omega
      · rw [if_neg hin] at HV
        have j1 : ¬ (k : Int) + 1 < (l.length : Int) := by omega
        have j2 : (k : Int) + 1 < (n : Int) := by omega
        go_wp2
        go_round
        case rel => exact ⟨k + 1, by omega, by go_num, by rw [HV.out]; go_num⟩
        case measure => simp [intOf]; omega
    · have j2 : ¬ (k : Int) + 1 < (n : Int) := by omega
      go_wp2
      go_ret
      exact ⟨ret_int (by rw [show n - 1 = k by omega]), New.alloc _⟩

end Go.Proofs.Ytdkkdicgjhjinaa
