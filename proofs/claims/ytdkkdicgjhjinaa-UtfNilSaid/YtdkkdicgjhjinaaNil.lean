/-
  The results for a nil decoder.
-/
import Derived.Test.YtdkkdicgjhjinaaArg
namespace Go.Proofs.Ytdkkdicgjhjinaa
open Go.RowKit

set_option maxHeartbeats 800000 in
theorem nil_long (A : Option Addr) (n cap : Nat) (hn : 20 < n) (w : World) :
    Calls Try.prog 7 #[.slice A n cap] w fun e w' => e = .returned (.bool true) ∧ New w w' := by
  have h1 : (20 : Int) < (n : Int) := by omega
  go_enter Try.func7, Try.ntmps7
  go_wp2_with (go_at_call 9; refine (known_any _).mono ?_; rintro e w1 ⟨rfl, hk⟩)
  go_ret
  exact ⟨rfl, hk⟩

set_option maxHeartbeats 800000 in
theorem nil_short (t : List Int) (A : Option Addr) (b cap : Nat) (w : World) (hr : Rd w b A t.length (B8 t)) (hn : t.length ≤ 20) :
    Calls Try.prog 7 #[.slice A t.length cap] w fun e w' => e = .returned (.bool true) ∧ New w w' := by
  have h1 : ¬ (20 : Int) < (t.length : Int) := by omega
  have HR := Lib.hid hr
  have hA : 0 < t.length → ∃ o, A = some ⟨b, o, none⟩ := fun h => by obtain ⟨o, h, _⟩ := hr.2 h; exact ⟨o, h⟩
  clear hr
  go_enter Try.func7, Try.ntmps7
  go_wp2_with fail
  go_loop [12] (fun i => ∃ k : Nat, k ≤ t.length ∧ i = .int .i64 k) (fun i => t.length - (intOf i).toNat)
  case atStart => exact ⟨0, Nat.zero_le _, rfl⟩
  case round =>
    obtain ⟨k, hk, rfl⟩ := hrel
    by_cases hlt : k < t.length
    · obtain ⟨o, rfl, hc⟩ := HR.out.at_ hlt
      have hc' : w.cell? ⟨b, o + k, none⟩ = some (.int .u8 t[k]) := by simpa [B8] using hc
      clear hc
      go_wp2_with (go_at_call 14; refine (Step_nil _ _).mono ?_; rintro e w' ⟨rfl, rfl⟩)
      go_round
      case rel => exact ⟨k + 1, by omega, by go_num⟩
      case measure => simp [intOf]; omega
    · go_wp2_with (first
        | (go_at_call 22; refine (Feed_nil _ _).mono ?_; rintro e w' ⟨rfl, rfl⟩)
        | (go_at_call 17; refine (End_nil _).mono ?_; rintro e w' ⟨rfl, rfl⟩)
        | (go_at_call 16; refine (Pending_nil _).mono ?_; rintro e w' ⟨rfl, rfl⟩)
        | (go_at_call 13; refine (Copy_nil _).mono ?_; rintro e w' ⟨rfl, rfl⟩)
        | (go_at_call 9; refine (known_any _).mono ?_; rintro e w1 ⟨rfl, hk1⟩))
      go_ret
      exact ⟨rfl, hk1⟩

theorem nil_walk (a0 : Option Addr) (len0 cap0 : Nat) (z0 : List Int) (w : World) (w0 : RowIn .u8 w a0 len0 cap0 z0) :
    Calls Try.prog 7 #[.slice a0 len0 cap0] w fun e w' => e = .returned (.bool true) ∧ Below w.heap.size w w' := by
  obtain ⟨t, b, rfl, _, hr⟩ := w0.bytes
  by_cases hn : t.length ≤ 20
  · exact (nil_short t a0 b cap0 w hr hn).mono fun _ _ h => ⟨h.1, h.2.new_below⟩
  · exact (nil_long a0 t.length cap0 (by omega) w).mono fun _ _ h => ⟨h.1, h.2.new_below⟩

end Go.Proofs.Ytdkkdicgjhjinaa
