/-
  The specification: its tables, its search, how many columns a rune has.
-/
import Derived.Test.YtjcpdldaimebbaaDoorWOf
namespace Go.Proofs.YtjcpdldaimebbaaDoor
open Go.RowKit

theorem blk_arr {w : World} (t : TypeId) (cs : Array Value) (l : List (Int × Int)) (h : cs = arr l) : Blk (w.alloc (.cells cs t)) w.heap.size t (arr l) := by
  subst h
  exact Blk.new w t _

set_option maxHeartbeats 1000000 in
theorem RMarks_any (w : World) :
    Calls Tryd.prog 78 #[] w fun e w' => ∃ b, e = .returned (.slice (some ⟨b, 0, none⟩) 18 18) ∧ Blk w' b 101 (arr marksL) ∧ w.heap.size ≤ b ∧ New w w' := by
  go_enter Tryd.func78, Tryd.ntmps78
  go_wp2
  go_ret
  exact ⟨_, rfl, blk_arr _ _ _ rfl, Nat.le_refl _, New.alloc _⟩

set_option maxHeartbeats 1000000 in
theorem RWide_any (w : World) :
    Calls Tryd.prog 79 #[] w fun e w' => ∃ b, e = .returned (.slice (some ⟨b, 0, none⟩) 19 19) ∧ Blk w' b 101 (arr wideL) ∧ w.heap.size ≤ b ∧ New w w' := by
  go_enter Tryd.func79, Tryd.ntmps79
  go_wp2
  go_ret
  exact ⟨_, rfl, blk_arr _ _ _ rfl, Nat.le_refl _, New.alloc _⟩

theorem Rg.of_blk {w : World} {b : Nat} {l : List (Int × Int)} {t : TypeId} (h : Blk w b t (arr l)) : Rg w b l := Rg.of_heap h

theorem upto_succ {P : Nat → Prop} {k : Nat} (h : ∀ t, t < k → P t) (hk : P k) : ∀ t, t < k + 1 → P t := by
  intro t ht
  rcases Nat.lt_or_ge t k with h1 | h1
  · exact h t h1
  · have e : t = k := by omega
    rw [e]
    exact hk
theorem ag_ne {r a b : Int} (h : ¬ (a ≤ r ∧ r ≤ b)) : agI r a b ≠ 0 := by
  unfold agI
  by_cases h1 : r < a
  · rw [if_pos h1]; omega
  · rw [if_neg h1]
    by_cases h2 : b < r
    · rw [if_pos h2]; omega
    · omega

set_option maxHeartbeats 1000000 in
theorem RIn_any (l : List (Int × Int)) (n : Nat) (hn : l.length = n) (hl : n ≤ 1000) (r : Int) (b cap : Nat) (w : World) (h : Rg w b l) :
    Calls Tryd.prog 77 #[.slice (some ⟨b, 0, none⟩) n cap, .int .i32 r] w fun e w' => e = .returned (.bool (inB l r)) ∧ w = w' := by
  have HR := Lib.hid h
  clear h
  have HL := Lib.hid hn
  clear hn
  go_enter Tryd.func77, Tryd.ntmps77
  go_wp2
  go_loop [5] (fun i => ∃ k : Nat, k ≤ n ∧ i = .int .i64 k ∧ Hid (∀ t, t < k → agI r (lo l t) (hi l t) ≠ 0)) (fun i => n - (intOf i).toNat)
  case atStart => exact ⟨0, by omega, rfl, Lib.hid fun t ht => absurd ht (Nat.not_lt_zero _)⟩
  case round =>
    obtain ⟨k, hk, rfl, I⟩ := hrel
    by_cases hlt : k < n
    · have c1 := (HR.out.2 k (by rw [HL.out]; exact hlt)).1
      have c2 := (HR.out.2 k (by rw [HL.out]; exact hlt)).2
      have j1 : (k : Int) < (n : Int) := by omega
      by_cases hin : lo l k ≤ r ∧ r ≤ hi l k
      · obtain ⟨h1, h2⟩ := hin
        have HB : Hid (inB l r = true) := Lib.hid ((inB_iff l r).2 ⟨k, by rw [HL.out]; exact hlt, by unfold agI; rw [if_neg (by omega), if_neg (by omega)]⟩)
        go_wp2
        go_ret
        exact ⟨ret_bool HB.out.symm, rfl⟩
      · have HN : Hid (agI r (lo l k) (hi l k) ≠ 0) := Lib.hid (ag_ne hin)
        by_cases hin1 : lo l k ≤ r
        · have hin2 : ¬ r ≤ hi l k := fun h => hin ⟨hin1, h⟩
          clear hin
          go_wp2
          go_round
          case rel => exact ⟨k + 1, by omega, by go_num, Lib.hid upto_succ I.out HN.out⟩
          case measure => simp [intOf]; omega
        · clear hin
          go_wp2
          go_round
          case rel => exact ⟨k + 1, by omega, by go_num, Lib.hid upto_succ I.out HN.out⟩
          case measure => simp [intOf]; omega
    · have j1 : ¬ (k : Int) < (n : Int) := by omega
      have HB : Hid (inB l r = false) := Lib.hid (by
        rw [Bool.eq_false_iff, Ne, inB_iff]
        rintro ⟨j, hj, e⟩
        exact I.out j (by have := HL.out; omega) e)
      go_wp2
      go_ret
      exact ⟨ret_bool HB.out.symm, rfl⟩

set_option maxHeartbeats 400000 in
theorem ROf_any (r : Int) (w : World) :
    Calls Tryd.prog 68 #[.int .i32 r] w fun e w' => e = .returned (.int .i64 (ofI r)) ∧ New w w' := by
  cases hp : printedB r with
  | false =>
    have c1 := fun w => Printed_any r w
    rw [hp] at c1
    go_enter Tryd.func68, Tryd.ntmps68
    go_wp2_with (go_at_call 76; refine (c1 _).mono ?_; rintro e w1 ⟨rfl, rfl⟩)
    go_ret
    exact ⟨ret_int (of_not hp).symm, Fr.refl _ _⟩
  | true =>
    have c1 := fun w => Printed_any r w
    rw [hp] at c1
    cases hm : inB marksL r with
    | true =>
      have c2 := fun b cap w h => RIn_any marksL 18 rfl (by omega) r b cap w h
      rw [hm] at c2
      go_enter Tryd.func68, Tryd.ntmps68
      go_wp2_with (first
        | (go_at_call 76; refine (c1 _).mono ?_; rintro e w1 ⟨rfl, rfl⟩)
        | (go_at_call 78; refine (RMarks_any _).mono ?_; rintro e w2 ⟨b2, rfl, hb2, -, hn2⟩; have HB2 := Lib.hid hb2; have HN2 := Lib.hid hn2; clear hb2 hn2)
        | (go_at_call 77; refine (c2 _ _ _ (Rg.of_blk HB2.out)).mono ?_; rintro e w3 ⟨rfl, rfl⟩))
      go_ret
      exact ⟨ret_int (of_mark hp hm).symm, HN2.out⟩
    | false =>
      have c2 := fun b cap w h => RIn_any marksL 18 rfl (by omega) r b cap w h
      rw [hm] at c2
      cases hw : inB wideL r with
      | true =>
        have c3 := fun b cap w h => RIn_any wideL 19 rfl (by omega) r b cap w h
        rw [hw] at c3
        go_enter Tryd.func68, Tryd.ntmps68
        go_wp2_with fail
        refine (c1 _).mono ?_
        rintro e w1 ⟨rfl, rfl⟩
        go_wp2_with fail
        refine (RMarks_any _).mono ?_
        rintro e w2 ⟨b2, rfl, hb2, -, hn2⟩
        have HB2 := Lib.hid hb2
        have HN2 := Lib.hid hn2
        clear hb2 hn2
        go_wp2_with fail
        refine (c2 _ _ _ (Rg.of_blk HB2.out)).mono ?_
        rintro e w3 ⟨rfl, rfl⟩
        go_wp2_with fail
        refine (RWide_any _).mono ?_
        rintro e w4 ⟨b4, rfl, hb4, -, hn4⟩
        have HB4 := Lib.hid hb4
        have HN4 := Lib.hid hn4
        clear hb4 hn4
        go_wp2_with fail
        refine (c3 _ _ _ (Rg.of_blk HB4.out)).mono ?_
        rintro e w5 ⟨rfl, rfl⟩
        go_wp2_with fail
        go_ret
        exact ⟨ret_int (of_wide hp hm hw).symm, HN2.out.trans HN4.out⟩
      | false =>
        have c3 := fun b cap w h => RIn_any wideL 19 rfl (by omega) r b cap w h
        rw [hw] at c3
        go_enter Tryd.func68, Tryd.ntmps68
        go_wp2_with fail
        refine (c1 _).mono ?_
        rintro e w1 ⟨rfl, rfl⟩
        go_wp2_with fail
        refine (RMarks_any _).mono ?_
        rintro e w2 ⟨b2, rfl, hb2, -, hn2⟩
        have HB2 := Lib.hid hb2
        have HN2 := Lib.hid hn2
        clear hb2 hn2
        go_wp2_with fail
        refine (c2 _ _ _ (Rg.of_blk HB2.out)).mono ?_
        rintro e w3 ⟨rfl, rfl⟩
        go_wp2_with fail
        refine (RWide_any _).mono ?_
        rintro e w4 ⟨b4, rfl, hb4, -, hn4⟩
        have HB4 := Lib.hid hb4
        have HN4 := Lib.hid hn4
        clear hb4 hn4
        go_wp2_with fail
        refine (c3 _ _ _ (Rg.of_blk HB4.out)).mono ?_
        rintro e w5 ⟨rfl, rfl⟩
        go_wp2_with fail
        go_ret
        exact ⟨ret_int (of_one hp hm hw).symm, HN2.out.trans HN4.out⟩

end Go.Proofs.YtjcpdldaimebbaaDoor
