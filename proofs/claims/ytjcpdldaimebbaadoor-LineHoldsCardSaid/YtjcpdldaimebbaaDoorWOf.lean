/-
  How many columns a rune has: the program, and the specification.
-/
import Derived.Test.YtjcpdldaimebbaaDoorWFind
namespace Go.Proofs.YtjcpdldaimebbaaDoor
open Go.RowKit

theorem of_not {r : Int} (h : printedB r = false) : ofI r = -1 := by unfold ofI; rw [if_pos h]
theorem of_mark {r : Int} (h : printedB r = true) (hm : inB marksL r = true) : ofI r = 0 := by unfold ofI; rw [if_neg (by simp [h]), if_pos hm]
theorem of_wide {r : Int} (h : printedB r = true) (hm : inB marksL r = false) (hw : inB wideL r = true) : ofI r = 2 := by unfold ofI; rw [if_neg (by simp [h]), if_neg (by simp [hm]), if_pos hw]
theorem of_one {r : Int} (h : printedB r = true) (hm : inB marksL r = false) (hw : inB wideL r = false) : ofI r = 1 := by unfold ofI; rw [if_neg (by simp [h]), if_neg (by simp [hm]), if_neg (by simp [hw])]

set_option maxHeartbeats 400000 in
theorem Of_any (r : Int) (w : World) (hT : Tab w) :
    Calls Tryd.prog 64 #[.int .i32 r] w fun e w' => e = .returned (.int .i64 (ofI r)) ∧ New w w' := by
  have H := Lib.hid hT
  clear hT
  cases hp : printedB r with
  | false =>
    have c1 := fun w => printed_any r w
    rw [hp] at c1
    go_enter Tryd.func64, Tryd.ntmps64
    go_wp2_with (go_at_call 72; refine (c1 _).mono ?_; rintro e w1 ⟨rfl, rfl⟩)
    go_ret
    exact ⟨ret_int (of_not hp).symm, Fr.refl _ _⟩
  | true =>
    have c1 := fun w => printed_any r w
    rw [hp] at c1
    cases hm : inB marksL r with
    | true =>
      have c2 := fun w h => isMark_any r w h
      rw [hm] at c2
      go_enter Tryd.func64, Tryd.ntmps64
      go_wp2_with (first
        | (go_at_call 72; refine (c1 _).mono ?_; rintro e w1 ⟨rfl, rfl⟩)
        | (go_at_call 73; refine (c2 _ H.out).mono ?_; rintro e w2 ⟨rfl, hn2⟩; have HN2 := Lib.hid hn2; clear hn2))
      go_ret
      exact ⟨ret_int (of_mark hp hm).symm, HN2.out⟩
    | false =>
      have c2 := fun w h => isMark_any r w h
      rw [hm] at c2
      cases hw : inB wideL r with
      | true =>
        have c3 := fun w h => isWide_any r w h
        rw [hw] at c3
        go_enter Tryd.func64, Tryd.ntmps64
        go_wp2_with (first
          | (go_at_call 72; refine (c1 _).mono ?_; rintro e w1 ⟨rfl, rfl⟩)
          | (go_at_call 73; refine (c2 _ H.out).mono ?_; rintro e w2 ⟨rfl, hn2⟩; have HN2 := Lib.hid hn2; clear hn2)
          | (go_at_call 74; refine (c3 _ (H.out.new HN2.out)).mono ?_; rintro e w3 ⟨rfl, hn3⟩; have HN3 := Lib.hid hn3; clear hn3))
        go_ret
        exact ⟨ret_int (of_wide hp hm hw).symm, HN2.out.trans HN3.out⟩
      | false =>
        have c3 := fun w h => isWide_any r w h
        rw [hw] at c3
        go_enter Tryd.func64, Tryd.ntmps64
        go_wp2_with (first
          | (go_at_call 72; refine (c1 _).mono ?_; rintro e w1 ⟨rfl, rfl⟩)
          | (go_at_call 73; refine (c2 _ H.out).mono ?_; rintro e w2 ⟨rfl, hn2⟩; have HN2 := Lib.hid hn2; clear hn2)
          | (go_at_call 74; refine (c3 _ (H.out.new HN2.out)).mono ?_; rintro e w3 ⟨rfl, hn3⟩; have HN3 := Lib.hid hn3; clear hn3))
        go_ret
        exact ⟨ret_int (of_one hp hm hw).symm, HN2.out.trans HN3.out⟩

end Go.Proofs.YtjcpdldaimebbaaDoor
