/-
  One flag: the tables of math/bits, isFlag, Number, Has.
-/
import Derived.Test.YtgmgojoklacdlaaDoorLeaf
namespace Go.Proofs.YtgmgojoklacdlaaDoor
open Go.RowKit

def popT : ByteArray := ⟨#[0, 1, 1, 2, 1, 2, 2, 3, 1, 2, 2, 3, 2, 3, 3, 4, 1, 2, 2, 3, 2, 3, 3, 4, 2, 3, 3, 4, 3, 4, 4, 5, 1, 2, 2, 3, 2, 3, 3, 4, 2, 3, 3, 4, 3, 4, 4, 5, 2, 3, 3, 4, 3, 4, 4, 5, 3, 4, 4, 5, 4, 5, 5, 6, 1, 2, 2, 3, 2, 3, 3, 4, 2, 3, 3, 4, 3, 4, 4, 5, 2, 3, 3, 4, 3, 4, 4, 5, 3, 4, 4, 5, 4, 5, 5, 6, 2, 3, 3, 4, 3, 4, 4, 5, 3, 4, 4, 5, 4, 5, 5, 6, 3, 4, 4, 5, 4, 5, 5, 6, 4, 5, 5, 6, 5, 6, 6, 7, 1, 2, 2, 3, 2, 3, 3, 4, 2, 3, 3, 4, 3, 4, 4, 5, 2, 3, 3, 4, 3, 4, 4, 5, 3, 4, 4, 5, 4, 5, 5, 6, 2, 3, 3, 4, 3, 4, 4, 5, 3, 4, 4, 5, 4, 5, 5, 6, 3, 4, 4, 5, 4, 5, 5, 6, 4, 5, 5, 6, 5, 6, 6, 7, 2, 3, 3, 4, 3, 4, 4, 5, 3, 4, 4, 5, 4, 5, 5, 6, 3, 4, 4, 5, 4, 5, 5, 6, 4, 5, 5, 6, 5, 6, 6, 7, 3, 4, 4, 5, 4, 5, 5, 6, 4, 5, 5, 6, 5, 6, 6, 7, 4, 5, 5, 6, 5, 6, 6, 7, 5, 6, 6, 7, 6, 7, 7, 8]⟩
def ntzT : ByteArray := ⟨#[8, 0, 1, 0, 2, 0, 1, 0, 3, 0, 1, 0, 2, 0, 1, 0, 4, 0, 1, 0, 2, 0, 1, 0, 3, 0, 1, 0, 2, 0, 1, 0, 5, 0, 1, 0, 2, 0, 1, 0, 3, 0, 1, 0, 2, 0, 1, 0, 4, 0, 1, 0, 2, 0, 1, 0, 3, 0, 1, 0, 2, 0, 1, 0, 6, 0, 1, 0, 2, 0, 1, 0, 3, 0, 1, 0, 2, 0, 1, 0, 4, 0, 1, 0, 2, 0, 1, 0, 3, 0, 1, 0, 2, 0, 1, 0, 5, 0, 1, 0, 2, 0, 1, 0, 3, 0, 1, 0, 2, 0, 1, 0, 4, 0, 1, 0, 2, 0, 1, 0, 3, 0, 1, 0, 2, 0, 1, 0, 7, 0, 1, 0, 2, 0, 1, 0, 3, 0, 1, 0, 2, 0, 1, 0, 4, 0, 1, 0, 2, 0, 1, 0, 3, 0, 1, 0, 2, 0, 1, 0, 5, 0, 1, 0, 2, 0, 1, 0, 3, 0, 1, 0, 2, 0, 1, 0, 4, 0, 1, 0, 2, 0, 1, 0, 3, 0, 1, 0, 2, 0, 1, 0, 6, 0, 1, 0, 2, 0, 1, 0, 3, 0, 1, 0, 2, 0, 1, 0, 4, 0, 1, 0, 2, 0, 1, 0, 3, 0, 1, 0, 2, 0, 1, 0, 5, 0, 1, 0, 2, 0, 1, 0, 3, 0, 1, 0, 2, 0, 1, 0, 4, 0, 1, 0, 2, 0, 1, 0, 3, 0, 1, 0, 2, 0, 1, 0]⟩

set_option maxRecDepth 100000 in
theorem pop_at : ∀ m : Fin 256, (wrap64 ((popT[m.val]'(show m.val < 256 from m.isLt)).toNat : Int) == 1) = flagB (m.val : Int) := by decide +kernel
set_option maxRecDepth 100000 in
theorem ntz_at : ∀ m : Fin 256, flagB (m.val : Int) = true → wrap64 ((ntzT[m.val]'(show m.val < 256 from m.isLt)).toNat : Int) = ((ntzT[m.val]'(show m.val < 256 from m.isLt)).toNat : Int) ∧ (ntzT[m.val]'(show m.val < 256 from m.isLt)).toNat < 8 ∧ (m.val : Int) = flagAt (ntzT[m.val]'(show m.val < 256 from m.isLt)).toNat := by decide +kernel

set_option maxRecDepth 100000 in
set_option maxHeartbeats 800000 in
theorem OnesCount8_any (f : Int) (h0 : 0 ≤ f) (h1 : f ≤ 255) (w : World) :
    Calls Tryd.prog 38 #[.int .u8 f] w fun e w' => (∃ n : Int, e = .returned (.int .i64 n) ∧ (n == 1) = flagB f) ∧ w = w' := by
  go_enter Tryd.func38, Tryd.ntmps38
  go_wp2
  go_ret
  obtain ⟨n, rfl⟩ := Int.eq_ofNat_of_zero_le h0
  exact ⟨⟨_, rfl, pop_at ⟨n, by omega⟩⟩, rfl⟩
set_option maxRecDepth 100000 in
set_option maxHeartbeats 800000 in
theorem TrailingZeros8_any (f : Int) (h0 : 0 ≤ f) (h1 : f ≤ 255) (hf : flagB f = true) (w : World) :
    Calls Tryd.prog 36 #[.int .u8 f] w fun e w' => (∃ n : Nat, n < 8 ∧ f = flagAt n ∧ e = .returned (.int .i64 n)) ∧ w = w' := by
  go_enter Tryd.func36, Tryd.ntmps36
  go_wp2
  go_ret
  obtain ⟨n, rfl⟩ := Int.eq_ofNat_of_zero_le h0
  obtain ⟨e1, e2, e3⟩ := ntz_at ⟨n, by omega⟩ hf
  exact ⟨⟨_, e2, e3, congrArg (fun x => Ending.returned (.int .i64 x)) e1⟩, rfl⟩

set_option maxHeartbeats 400000 in
theorem isFlag_any (f : Int) (h0 : 0 ≤ f) (h1 : f ≤ 255) (w : World) :
    Calls Tryd.prog 35 #[.int .u8 f] w fun e w' => e = .returned (.bool (flagB f)) ∧ w = w' := by
  go_enter Tryd.func35, Tryd.ntmps35
  go_wp2_with (go_at_call 38; refine (OnesCount8_any f h0 h1 _).mono ?_; rintro e w1 ⟨⟨n, rfl, hn⟩, rfl⟩)
  go_ret
  exact ⟨ret_bool rfl, rfl⟩

/-- Whether a number has a flag. -/
def hasB (a f : Int) : Bool := flagB f && (bits .and .u8 a f != 0)

set_option maxHeartbeats 400000 in
theorem Has_any (p : Pn) (f : Int) (h0 : 0 ≤ f) (h1 : f ≤ 255) (w : World) :
    Calls Tryd.prog 27 #[p.v, .int .u8 f] w fun e w' => e = .returned (.bool (hasB p.fl f)) ∧ New w w' := by
  have hF := fun w => isFlag_any f h0 h1 w
  unfold hasB
  cases hf : flagB f with
  | false =>
    rw [hf] at hF
    go_enter Tryd.func27, Tryd.ntmps27
    go_wp2_with (go_at_call 35; refine (hF _).mono ?_; rintro e w1 ⟨rfl, rfl⟩)
    go_ret
    exact ⟨rfl, New.alloc _⟩
  | true =>
    rw [hf] at hF
    go_enter Tryd.func27, Tryd.ntmps27
    go_wp2_with (go_at_call 35; refine (hF _).mono ?_; rintro e w1 ⟨rfl, rfl⟩)
    go_ret
    exact ⟨ret_bool rfl, New.alloc _⟩

theorem flagAt_flag : ∀ k, k < 8 → flagB (flagAt k) = true := by decide
set_option maxHeartbeats 1600000 in
theorem Number_any (f : Int) (h0 : 0 ≤ f) (h1 : f ≤ 255) (w : World) :
    Calls Tryd.prog 23 #[.int .u8 f] w fun e w' => (∃ n : Int, e = .returned (.int .i64 n) ∧ (flagB f = true → 0 ≤ n) ∧ (flagB f = false → n = -1)) ∧ w = w' := by
  go_enter Tryd.func23, Tryd.ntmps23
  go_wp2
  go_loop [3, 4] (fun t i => ∃ k : Nat, k ≤ 8 ∧ i = .int .i64 k ∧ t = .int .i64 (flagAt k) ∧ ∀ j, j < k → f ≠ flagAt j) (fun _ i => 8 - (intOf i).toNat)
  case atStart => exact ⟨0, by omega, rfl, rfl, by omega⟩
  case round =>
    obtain ⟨k, hk, rfl, rfl, hne⟩ := hrel
    have HN := Lib.hid hne
    clear hne
    by_cases h8 : k = 8
    · subst h8
      go_wp2
      go_ret
      refine ⟨⟨_, rfl, fun h => ?_, fun _ => rfl⟩, rfl⟩
      obtain ⟨n, hn, e⟩ := flag_cases h
      exact absurd e (HN.out n hn)
    · have hk7 : k < 8 := by omega
      have hb := flagAt_flag k hk7
      by_cases he : f = flagAt k
      · have je : (f == flagAt k) = true := by simpa using he
        have HE := Lib.hid (show flagB f = true by rw [he]; exact hb)
        clear he hb h8
        have hk' : k = 0 ∨ k = 1 ∨ k = 2 ∨ k = 3 ∨ k = 4 ∨ k = 5 ∨ k = 6 ∨ k = 7 := by omega
        rcases hk' with rfl | rfl | rfl | rfl | rfl | rfl | rfl | rfl
        all_goals
          simp only [flagAt, Int.reducePow] at je ⊢
          go_wp2
          go_ret
          exact ⟨⟨_, rfl, fun _ => by decide, fun h => absurd h (by rw [HE.out]; decide)⟩, rfl⟩
      · have je : (f == flagAt k) = false := by simpa using he
        have HE := Lib.hid (show ∀ j, j < k + 1 → f ≠ flagAt j from fun j hj => by
          rcases Nat.lt_succ_iff_lt_or_eq.1 hj with h | rfl
          · exact HN.out j h
          · exact he)
        clear he hb h8 HN
        have hk' : k = 0 ∨ k = 1 ∨ k = 2 ∨ k = 3 ∨ k = 4 ∨ k = 5 ∨ k = 6 ∨ k = 7 := by omega
        rcases hk' with rfl | rfl | rfl | rfl | rfl | rfl | rfl | rfl
        all_goals
          simp only [flagAt, Int.reducePow] at je ⊢
          go_wp2
          go_round
          case rel =>
            refine ⟨_, ?_, rfl, rfl, HE.out⟩
            decide
          case measure => simp [intOf]

end Go.Proofs.YtgmgojoklacdlaaDoor
