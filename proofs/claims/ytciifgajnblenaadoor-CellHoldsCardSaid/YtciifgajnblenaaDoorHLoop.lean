/-
  Loops in walks by hand: a natural number that each round makes less.
-/
import Derived.Test.YtciifgajnblenaaDoorHand
namespace Go.Proofs.YtciifgajnblenaaDoor
open Go.RowKit

theorem least (p : Nat → Prop) : ∀ n, p n → ∃ m, p m ∧ ∀ k, p k → m ≤ k := by
  intro n
  induction n using Nat.strongRecOn with
  | _ n ih =>
    intro hn
    by_cases h : ∃ k, k < n ∧ p k
    · obtain ⟨k, hk, hp⟩ := h
      exact ih k hk hp
    · exact ⟨n, hn, fun k hk => Nat.le_of_not_lt fun hlt => h ⟨k, hlt, hk⟩⟩
section
variable {P : Program} {Q : Exit → Act → World → Prop} {a : Act} {w : World}
/-- A loop whose rounds count down. -/
theorem loop_nat {c : Code} (I : Nat → Act → World → Prop) (n : Nat) (h0 : I n a w) (round : ∀ m a w, I m a w → c.wp P (Exit.then (fun a' w' => ∃ m', m' < m ∧ I m' a' w') Q) a w) : (Code.loop c).wp P Q a w := by
  classical
  have hl : ∀ a w, (∃ m, I m a w) → ∃ m, I m a w ∧ ∀ k, I k a w → m ≤ k := fun a w ⟨m, h⟩ => least (fun m => I m a w) m h
  refine wp_loop (fun a w => ∃ m, I m a w) (fun a w => if h : ∃ m, I m a w then Classical.choose (hl a w h) else 0) ⟨n, h0⟩ (fun a w hI => ?_)
  have hm := Classical.choose_spec (hl a w hI)
  refine wp_mono (round _ a w hm.1) (fun e a' w' h => ?_)
  cases e with
  | normal =>
    obtain ⟨m', hlt, h'⟩ := h
    have hE : ∃ m, I m a' w' := ⟨m', h'⟩
    refine ⟨hE, ?_⟩
    simp only [dif_pos hE, dif_pos hI]
    exact Nat.lt_of_le_of_lt ((Classical.choose_spec (hl a' w' hE)).2 m' h') hlt
  | _ => exact h
end

end Go.Proofs.YtciifgajnblenaaDoor
