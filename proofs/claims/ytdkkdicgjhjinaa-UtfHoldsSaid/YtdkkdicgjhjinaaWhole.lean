/-
  The rune of its bytes.
-/
import Derived.Test.YtdkkdicgjhjinaaLeaf
import Derived.BigQuiet
import Derived.Deep.QuietTactic
namespace Go.Proofs.Ytdkkdicgjhjinaa
open Go.RowKit

theorem i32_and_nat (a b : Nat) (ha : a < 2147483648) (hb : b < 2147483648) : bits .and .i32 (a : Int) (b : Int) = ((a &&& b : Nat) : Int) := by
  have hx : a &&& b < 2 ^ 31 := Nat.and_lt_two_pow _ (by omega)
  show IntKind.i32.wrap ((BitVec.ofInt 32 (a : Int) &&& BitVec.ofInt 32 (b : Int)).toNat : Int) = _
  rw [BitVec.toNat_and, ofInt_u32 a (by omega), ofInt_u32 b (by omega), IntKind.wrap_i32]
  omega
theorem i32_or_nat (a b : Nat) (ha : a < 2147483648) (hb : b < 2147483648) : bits .or .i32 (a : Int) (b : Int) = ((a ||| b : Nat) : Int) := by
  have hx : a ||| b < 2 ^ 31 := Nat.or_lt_two_pow (by omega) (by omega)
  show IntKind.i32.wrap ((BitVec.ofInt 32 (a : Int) ||| BitVec.ofInt 32 (b : Int)).toNat : Int) = _
  rw [BitVec.toNat_or, ofInt_u32 a (by omega), ofInt_u32 b (by omega), IntKind.wrap_i32]
  omega
theorem or6 (r c : Int) (h0 : 0 ≤ r) (h1 : r < 16777216) (c0 : 0 ≤ c) : bits .or .i32 (wrap32 (r * 64)) (c % 64) = r * 64 + c % 64 := by
  rw [IntWalk.wrap32_in (r * 64) (by omega)]
  obtain ⟨r, rfl⟩ := Int.eq_ofNat_of_zero_le h0
  obtain ⟨c, rfl⟩ := Int.eq_ofNat_of_zero_le c0
  have e1 : (r : Int) * 64 = ((r * 64 : Nat) : Int) := by omega
  have e2 : (c : Int) % 64 = ((c % 64 : Nat) : Int) := by omega
  rw [e1, e2, i32_or_nat _ _ (by omega) (by omega), nat_join 6 (r * 64) (c % 64) (by omega) (by omega)]
  omega
theorem and63 (a : Int) (h0 : 0 ≤ a) (h1 : a < 256) : bits .and .i32 a 63 = a % 64 := by
  obtain ⟨a, rfl⟩ := Int.eq_ofNat_of_zero_le h0
  have := i32_and_nat a 63 (by omega) (by omega)
  rw [nat_mask6] at this
  exact this.trans (by omega)
theorem and31 (a : Int) (h0 : 0 ≤ a) (h1 : a < 256) : bits .and .i32 a 31 = a % 32 := by
  obtain ⟨a, rfl⟩ := Int.eq_ofNat_of_zero_le h0
  have := i32_and_nat a 31 (by omega) (by omega)
  rw [nat_mask5] at this
  exact this.trans (by omega)
theorem and15 (a : Int) (h0 : 0 ≤ a) (h1 : a < 256) : bits .and .i32 a 15 = a % 16 := by
  obtain ⟨a, rfl⟩ := Int.eq_ofNat_of_zero_le h0
  have := i32_and_nat a 15 (by omega) (by omega)
  rw [nat_mask4] at this
  exact this.trans (by omega)

set_option maxHeartbeats 400000 in
theorem whole2 (a b : Int) (ha0 : 0 ≤ a) (ha : a < 256) (hb0 : 0 ≤ b) (hb : b < 256) (g : Nat) (w : World) (k0 : w.cell? ⟨g, 0, none⟩ = some (.int .u8 a)) (k1 : w.cell? ⟨g, 1, none⟩ = some (.int .u8 b)) (k : Nat) (hk : 2 ≤ k) :
    Calls Try.prog 33 #[.slice (some ⟨g, 0, none⟩) 2 k] w fun e w' => e = .returned (.int .i32 (runeOf [a, b])) ∧ ∃ m, w' = w.drewN m := by
  go_enter Try.func33, Try.ntmps33
  go_wp2_with fail
  go_quiet (fail)
  go_wp2_with fail
  refine wp_loop_rounds 2 ?_
  rw [rounds_succ]
  go_wp2
  rw [rounds_succ]
  go_wp2
  go_ret
  refine ⟨ret_int ?_, ⟨_, rfl⟩⟩
  show bits .or .i32 (wrap32 (bits .and .i32 a 63 * 64)) (b % 64) = _
  rw [and63 a ha0 ha, or6 _ b (by omega) (by omega) hb0]
  rfl

set_option maxHeartbeats 400000 in
theorem whole3 (a b c : Int) (ha0 : 0 ≤ a) (ha : a < 256) (hb0 : 0 ≤ b) (hb : b < 256) (hc0 : 0 ≤ c) (hc : c < 256) (g : Nat) (w : World) (k0 : w.cell? ⟨g, 0, none⟩ = some (.int .u8 a)) (k1 : w.cell? ⟨g, 1, none⟩ = some (.int .u8 b)) (k2 : w.cell? ⟨g, 2, none⟩ = some (.int .u8 c)) (k : Nat) (hk : 3 ≤ k) :
    Calls Try.prog 33 #[.slice (some ⟨g, 0, none⟩) 3 k] w fun e w' => e = .returned (.int .i32 (runeOf [a, b, c])) ∧ ∃ m, w' = w.drewN m := by
  go_enter Try.func33, Try.ntmps33
  go_wp2_with fail
  go_quiet (fail)
  go_wp2_with fail
  refine wp_loop_rounds 3 ?_
  rw [rounds_succ]
  go_wp2
  rw [rounds_succ]
  go_wp2
  rw [rounds_succ]
  go_wp2
  go_ret
  refine ⟨ret_int ?_, ⟨_, rfl⟩⟩
  show bits .or .i32 (wrap32 (bits .or .i32 (wrap32 (bits .and .i32 a 31 * 64)) (b % 64) * 64)) (c % 64) = _
  rw [and31 a ha0 ha, or6 _ b (by omega) (by omega) hb0, or6 _ c (by omega) (by omega) hc0]
  rfl

set_option maxHeartbeats 400000 in
theorem whole4 (a b c d : Int) (ha0 : 0 ≤ a) (ha : a < 256) (hb0 : 0 ≤ b) (hb : b < 256) (hc0 : 0 ≤ c) (hc : c < 256) (hd0 : 0 ≤ d) (hd : d < 256) (g : Nat) (w : World) (k0 : w.cell? ⟨g, 0, none⟩ = some (.int .u8 a)) (k1 : w.cell? ⟨g, 1, none⟩ = some (.int .u8 b)) (k2 : w.cell? ⟨g, 2, none⟩ = some (.int .u8 c)) (k3 : w.cell? ⟨g, 3, none⟩ = some (.int .u8 d)) (k : Nat) (hk : 4 ≤ k) :
    Calls Try.prog 33 #[.slice (some ⟨g, 0, none⟩) 4 k] w fun e w' => e = .returned (.int .i32 (runeOf [a, b, c, d])) ∧ ∃ m, w' = w.drewN m := by
  go_enter Try.func33, Try.ntmps33
  go_wp2_with fail
  go_quiet (fail)
  go_wp2_with fail
  refine wp_loop_rounds 4 ?_
  rw [rounds_succ]
  go_wp2
  rw [rounds_succ]
  go_wp2
  rw [rounds_succ]
  go_wp2
  rw [rounds_succ]
  go_wp2
  go_ret
  refine ⟨ret_int ?_, ⟨_, rfl⟩⟩
  show bits .or .i32 (wrap32 (bits .or .i32 (wrap32 (bits .or .i32 (wrap32 (bits .and .i32 a 15 * 64)) (b % 64) * 64)) (c % 64) * 64)) (d % 64) = _
  rw [and15 a ha0 ha, or6 _ b (by omega) (by omega) hb0, or6 _ c (by omega) (by omega) hc0, or6 _ d (by omega) (by omega) hd0]
  rfl

end Go.Proofs.Ytdkkdicgjhjinaa
