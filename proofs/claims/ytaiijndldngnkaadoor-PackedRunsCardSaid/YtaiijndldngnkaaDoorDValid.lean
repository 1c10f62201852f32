/-
  Which cells are valid: package cell.
-/
import Derived.Test.YtaiijndldngnkaaDoorDVals
namespace Go.Proofs.YtaiijndldngnkaaDoor
open Go.RowKit

theorem CValidK (c : Ce) (b : Bool) (h : cellB c = b) (w : World) (hT : Tab w) : CValidSaid c b w := by
  subst h
  cases hp : validB c.p with
  | false => exact cellB_bad hp ▸ cv_pen c hp w
  | true =>
    by_cases hr : c.r = 0
    · rw [cellB_zero hp hr]
      by_cases h0 : c.wd = 0
      · have := cv_z0 c hp hr h0 w
        simpa [h0] using this
      · by_cases h1 : c.wd = 1
        · have := cv_z1 c hp hr h0 h1 w
          simpa [h1] using this
        · have e : ((c.wd == 0 || c.wd == 1) && noM c) = false := by simp [h0, h1]
          rw [e]
          exact cv_z2 c hp hr h0 h1 w
    · rw [cellB_wr hp hr]
      have f : ∀ b, c.wd = 1 ∨ c.wd = 2 → ((c.wd == 1 || c.wd == 2) && b) = b := fun b h => by
        rcases h with h | h <;> simp [h]
      have hq : ofI c.r = -1 ∨ ofI c.r = 0 ∨ ofI c.r = 1 ∨ ofI c.r = 2 := by
        unfold ofI
        repeat' split
        all_goals simp
      by_cases h1 : c.wd = 1
      · rw [f _ (.inl h1)]
        obtain ⟨r, m0, m1, m2, wd, p⟩ := c
        simp only at h1 hp hr hq ⊢
        subst h1
        rcases hq with q | q | q | q <;> rw [q]
        · exact cv_w1_m r m0 m1 m2 p hp hr q w hT
        · exact cv_w1_0 r m0 m1 m2 p hp hr q w hT
        · exact cv_w1_1 r m0 m1 m2 p hp hr q w hT
        · exact cv_w1_2 r m0 m1 m2 p hp hr q w hT
      · by_cases h2 : c.wd = 2
        · rw [f _ (.inr h2)]
          obtain ⟨r, m0, m1, m2, wd, p⟩ := c
          simp only at h2 hp hr hq ⊢
          subst h2
          rcases hq with q | q | q | q <;> rw [q]
          · exact cv_w2_m r m0 m1 m2 p hp hr q w hT
          · exact cv_w2_0 r m0 m1 m2 p hp hr q w hT
          · exact cv_w2_1 r m0 m1 m2 p hp hr q w hT
          · exact cv_w2_2 r m0 m1 m2 p hp hr q w hT
        · have e : ((c.wd == 1 || c.wd == 2) && (decide (c.wd = ofI c.r) && okM c)) = false := by simp [h1, h2]
          rw [e]
          exact cv_w3 c hp hr h1 h2 w

end Go.Proofs.YtaiijndldngnkaaDoor
