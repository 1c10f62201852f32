/-
  areMarks of package cell.
-/
import Derived.Test.YtlpjhaghphmbeaaDoorCValid
import Derived.Test.YtlpjhaghphmbeaaDoorA5
import Derived.Deep.DeepCutAuto
import Derived.Test.YtlpjhaghphmbeaaDoorA3
namespace Go.Proofs.YtlpjhaghphmbeaaDoor
open Go.RowKit

def amB : Bool → List Int → Bool
  | _, [] => true
  | e, r :: t => if r = 0 then amB true t else if e = true ∨ ofI r ≠ 0 then false else amB e t
theorem amB_ok (c : Ce) : amB false [c.m0, c.m1, c.m2] = okM c := by
  unfold okM
  by_cases a : c.m0 = 0 <;> by_cases b : c.m1 = 0 <;> by_cases d : c.m2 = 0 <;> simp [amB, a, b, d]
  all_goals
    by_cases q : ofI c.m0 = 0 <;> by_cases q1 : ofI c.m1 = 0 <;> by_cases q2 : ofI c.m2 = 0 <;> simp [q, q1, q2]
theorem OfK (r k : Int) (h : ofI r = k) (w : World) (hT : Tab w) : Calls Tryd.prog 81 #[.int .i32 r] w fun e w' => e = .returned (.int .i64 k) ∧ New w w' := by
  subst h
  exact Of_any r w hT
theorem ix0 (a b c : Int) (w : World) : (Instr.index 87 (.agg #[.int .i32 a, .int .i32 b, .int .i32 c]) (.int .i64 0)).run Tryd.prog w = .ok (.int .i32 a) w := by kernel_rfl
theorem ix1 (a b c : Int) (w : World) : (Instr.index 87 (.agg #[.int .i32 a, .int .i32 b, .int .i32 c]) (.int .i64 1)).run Tryd.prog w = .ok (.int .i32 b) w := by kernel_rfl
theorem ix2 (a b c : Int) (w : World) : (Instr.index 87 (.agg #[.int .i32 a, .int .i32 b, .int .i32 c]) (.int .i64 2)).run Tryd.prog w = .ok (.int .i32 c) w := by kernel_rfl
abbrev arM (c : Ce) : Array Value := #[.int .i32 c.m0, .int .i32 c.m1, .int .i32 c.m2]
set_option maxHeartbeats 6400000 in
theorem areMarks_any (c : Ce) (w : World) (hT : Tab w) :
    Calls Tryd.prog 82 #[.agg (arM c)] w fun e w' => e = .returned (.bool (okM c)) ∧ New w w' := by
  have HT := Lib.hid hT
  have HA := Lib.hid (amB_ok c)
  clear hT
  go_enter Tryd.func82, Tryd.ntmps82
  go_wp2_with fail
  have HN : Hid (New w (w.alloc (.cells (arM c) 87))) := Lib.hid (New.alloc _)
  generalize w.alloc (.cells (arM c) 87) = W at *
  generalize w.heap.size = g at *
  go_loopw [3, 7] (fun v i wr => ∃ (k : Nat) (z : Int) (en : Bool), (k : Int) = z ∧ k ≤ 3 ∧ v = .bool en ∧ i = .int .i64 z ∧ New w wr ∧ amB en ([c.m0, c.m1, c.m2].drop k) = okM c) (fun _ i _ => 3 - (intOf i).toNat)
  case atStart => exact ⟨0, 0, false, rfl, by omega, rfl, rfl, HN.out, HA.out⟩
  case round =>
    obtain ⟨k, z, en, hz, hk, rfl, rfl, hn, hb⟩ := hrel
    have HN := Lib.hid hn
    have HB := Lib.hid hb
    clear hn hb
    have hk' : k = 3 ∨ k = 0 ∨ k = 1 ∨ k = 2 := by omega
    rcases hk' with rfl | rfl | rfl | rfl
    · obtain rfl : z = 3 := hz.symm
      go_wp2_with fail
      go_ret
      exact ⟨ret_bool HB.out, HN.out⟩
    · obtain rfl : z = 0 := hz.symm
      have hix := fun w => ix0 c.m0 c.m1 c.m2 w
      have HB : Hid (amB en (c.m0 :: [c.m1, c.m2]) = okM c) := HB
      by_cases hm : c.m0 = 0
      · have jm : (c.m0 == 0) = true := by simp [hm]
        have HB : Hid (amB true [c.m1, c.m2] = okM c) := Lib.hid (by
          have := HB.out
          rwa [amB, if_pos hm] at this)
        clear hm
        go_wp2_with fail
        go_roundw
        case rel => exact ⟨1, 1, true, rfl, by omega, rfl, rfl, HN.out, HB.out⟩
        case measure => decide
      · have jm : (c.m0 == 0) = false := by simpa using hm
        cases en with
        | true =>
          have HB : Hid (false = okM c) := Lib.hid (by
            have := HB.out
            rwa [amB, if_neg hm, if_pos (.inl rfl)] at this)
          clear hm
          go_wp2_with fail
          go_ret
          exact ⟨ret_bool HB.out, HN.out⟩
        | false =>
          obtain ⟨q, hq⟩ : ∃ q, ofI c.m0 = q := ⟨_, rfl⟩
          have C := fun w hT => OfK c.m0 q hq w hT
          by_cases hq0 : q = 0
          · have jq : (q != 0) = false := by simpa using hq0
            have HB : Hid (amB false [c.m1, c.m2] = okM c) := Lib.hid (by
              have := HB.out
              rwa [amB, if_neg hm, if_neg (by rw [hq]; simp [hq0])] at this)
            clear hm hq hq0
            go_wp2_with fail
            refine (C _ (HT.out.new HN.out)).mono ?_
            rintro e w1 ⟨rfl, hn⟩
            have HN := Lib.hid (HN.out.trans hn)
            clear hn C
            go_wp2_with fail
            go_roundw
            case rel => exact ⟨1, 1, false, rfl, by omega, rfl, rfl, HN.out, HB.out⟩
            case measure => decide
          · have jq : (q != 0) = true := by simpa using hq0
            have HB : Hid (false = okM c) := Lib.hid (by
              have := HB.out
              rwa [amB, if_neg hm, if_pos (.inr (by rw [hq]; exact hq0))] at this)
            clear hm hq hq0
            go_wp2_with fail
            refine (C _ (HT.out.new HN.out)).mono ?_
            rintro e w1 ⟨rfl, hn⟩
            have HN := Lib.hid (HN.out.trans hn)
            clear hn C
            go_wp2_with fail
            go_ret
            exact ⟨ret_bool HB.out, HN.out⟩
    · obtain rfl : z = 1 := hz.symm
      have hix := fun w => ix1 c.m0 c.m1 c.m2 w
      have HB : Hid (amB en (c.m1 :: [c.m2]) = okM c) := HB
      by_cases hm : c.m1 = 0
      · have jm : (c.m1 == 0) = true := by simp [hm]
        have HB : Hid (amB true [c.m2] = okM c) := Lib.hid (by
          have := HB.out
          rwa [amB, if_pos hm] at this)
        clear hm
        go_wp2_with fail
        go_roundw
        case rel => exact ⟨2, 2, true, rfl, by omega, rfl, rfl, HN.out, HB.out⟩
        case measure => decide
      · have jm : (c.m1 == 0) = false := by simpa using hm
        cases en with
        | true =>
          have HB : Hid (false = okM c) := Lib.hid (by
            have := HB.out
            rwa [amB, if_neg hm, if_pos (.inl rfl)] at this)
          clear hm
          go_wp2_with fail
          go_ret
          exact ⟨ret_bool HB.out, HN.out⟩
        | false =>
          obtain ⟨q, hq⟩ : ∃ q, ofI c.m1 = q := ⟨_, rfl⟩
          have C := fun w hT => OfK c.m1 q hq w hT
          by_cases hq0 : q = 0
          · have jq : (q != 0) = false := by simpa using hq0
            have HB : Hid (amB false [c.m2] = okM c) := Lib.hid (by
              have := HB.out
              rwa [amB, if_neg hm, if_neg (by rw [hq]; simp [hq0])] at this)
            clear hm hq hq0
            go_wp2_with fail
            refine (C _ (HT.out.new HN.out)).mono ?_
            rintro e w1 ⟨rfl, hn⟩
            have HN := Lib.hid (HN.out.trans hn)
            clear hn C
            go_wp2_with fail
            go_roundw
            case rel => exact ⟨2, 2, false, rfl, by omega, rfl, rfl, HN.out, HB.out⟩
            case measure => decide
          · have jq : (q != 0) = true := by simpa using hq0
            have HB : Hid (false = okM c) := Lib.hid (by
              have := HB.out
              rwa [amB, if_neg hm, if_pos (.inr (by rw [hq]; exact hq0))] at this)
            clear hm hq hq0
            go_wp2_with fail
            refine (C _ (HT.out.new HN.out)).mono ?_
            rintro e w1 ⟨rfl, hn⟩
            have HN := Lib.hid (HN.out.trans hn)
            clear hn C
            go_wp2_with fail
            go_ret
            exact ⟨ret_bool HB.out, HN.out⟩
    · obtain rfl : z = 2 := hz.symm
      have hix := fun w => ix2 c.m0 c.m1 c.m2 w
      have HB : Hid (amB en (c.m2 :: []) = okM c) := HB
      by_cases hm : c.m2 = 0
      · have jm : (c.m2 == 0) = true := by simp [hm]
        have HB : Hid (amB true [] = okM c) := Lib.hid (by
          have := HB.out
          rwa [amB, if_pos hm] at this)
        clear hm
        go_wp2_with fail
        go_roundw
        case rel => exact ⟨3, 3, true, rfl, by omega, rfl, rfl, HN.out, HB.out⟩
        case measure => decide
      · have jm : (c.m2 == 0) = false := by simpa using hm
        cases en with
        | true =>
          have HB : Hid (false = okM c) := Lib.hid (by
            have := HB.out
            rwa [amB, if_neg hm, if_pos (.inl rfl)] at this)
          clear hm
          go_wp2_with fail
          go_ret
          exact ⟨ret_bool HB.out, HN.out⟩
        | false =>
          obtain ⟨q, hq⟩ : ∃ q, ofI c.m2 = q := ⟨_, rfl⟩
          have C := fun w hT => OfK c.m2 q hq w hT
          by_cases hq0 : q = 0
          · have jq : (q != 0) = false := by simpa using hq0
            have HB : Hid (amB false [] = okM c) := Lib.hid (by
              have := HB.out
              rwa [amB, if_neg hm, if_neg (by rw [hq]; simp [hq0])] at this)
            clear hm hq hq0
            go_wp2_with fail
            refine (C _ (HT.out.new HN.out)).mono ?_
            rintro e w1 ⟨rfl, hn⟩
            have HN := Lib.hid (HN.out.trans hn)
            clear hn C
            go_wp2_with fail
            go_roundw
            case rel => exact ⟨3, 3, false, rfl, by omega, rfl, rfl, HN.out, HB.out⟩
            case measure => decide
          · have jq : (q != 0) = true := by simpa using hq0
            have HB : Hid (false = okM c) := Lib.hid (by
              have := HB.out
              rwa [amB, if_neg hm, if_pos (.inr (by rw [hq]; exact hq0))] at this)
            clear hm hq hq0
            go_wp2_with fail
            refine (C _ (HT.out.new HN.out)).mono ?_
            rintro e w1 ⟨rfl, hn⟩
            have HN := Lib.hid (HN.out.trans hn)
            clear hn C
            go_wp2_with fail
            go_ret
            exact ⟨ret_bool HB.out, HN.out⟩

end Go.Proofs.YtlpjhaghphmbeaaDoor
