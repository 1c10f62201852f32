/-
  The bits of colors.
-/
import Derived.Test.YtaiijndldngnkaaDoorPLeaf
namespace Go.Proofs.YtaiijndldngnkaaDoor
open Go.RowKit

set_option maxHeartbeats 400000 in
theorem bitsOf_any (c : Co) (hc : c.Ok) (hv : colB c = true) (w : World) :
    Calls Tryd.prog 65 #[c.v] w fun e w' => e = .returned (.int .u64 (bitsI c)) ∧ New w w' := by
  have hk : 0 ≤ c.k ∧ c.k ≤ 2 := by rcases colB_cases hv with e | e | e <;> rw [e] <;> simp
  obtain ⟨hk0, hk1⟩ := hk
  obtain ⟨_, _, _, _, _, _, _, _, _, _⟩ := id hc
  go_enter Tryd.func65, Tryd.ntmps65
  go_wp2
  go_ret
  refine ⟨ret_int ?_, New.alloc _⟩
  rcases colB_cases hv with e | e | e <;> rw [e]
  · decide
  · simp only [bitsI, if_true]
    have e1 : bits .or .u64 (bits .or .u64 (bits .or .u64 (1 * 16777216) (0 * 65536)) (0 * 256)) 0 = 16777216 := by decide
    rw [e1]
    exact or64 24 _ _ (by omega) (by omega) (by omega) (by omega) (by omega) (by omega)
  · simp only [bitsI]
    have e1 : bits .or .u64 (2 * 16777216) (c.r * 65536) = 33554432 + c.r * 65536 := or64 24 _ _ (by omega) (by omega) (by omega) (by omega) (by omega) (by omega)
    have e2 : bits .or .u64 (33554432 + c.r * 65536) (c.g * 256) = 33554432 + c.r * 65536 + c.g * 256 := or64 16 _ _ (by omega) (by omega) (by omega) (by omega) (by omega) (by omega)
    have e3 : bits .or .u64 (33554432 + c.r * 65536 + c.g * 256) c.b = 33554432 + c.r * 65536 + c.g * 256 + c.b := or64 8 _ _ (by omega) (by omega) (by omega) (by omega) (by omega) (by omega)
    have e4 : bits .or .u64 (33554432 + c.r * 65536 + c.g * 256 + c.b) 0 = 33554432 + c.r * 65536 + c.g * 256 + c.b + 0 := or64 0 _ _ (by omega) (by omega) (by omega) (by omega) (by omega) (by omega)
    rw [e1, e2, e3, e4, if_neg (by omega)]
    simp
    omega

set_option maxHeartbeats 400000 in
theorem RBits_any (c : Co) (hc : c.Ok) (w : World) :
    Calls Tryd.prog 46 #[c.v] w fun e w' => e = .returned (.int .u64 (bitsI c)) ∧ New w w' := by
  obtain ⟨_, _, _, _, _, _, _, _, _, _⟩ := id hc
  go_enter Tryd.func46, Tryd.ntmps46
  go_wp2
  all_goals
    go_ret
    refine ⟨ret_int ?_, New.alloc _⟩
    simp_all [bitsI]

end Go.Proofs.YtaiijndldngnkaaDoor
