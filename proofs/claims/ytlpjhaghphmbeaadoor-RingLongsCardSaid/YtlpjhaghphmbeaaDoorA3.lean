/-
  The two closures of the search.
  The library's Find, over either table; isMark, isWide.
  How many columns a rune has: the program, and the specification.
  The specification: its tables, its search, how many columns a rune has.
-/
import Derived.Test.YtlpjhaghphmbeaaDoorA1
import Derived.Deep.RegionWith
import Derived.Deep.DeepMust
import Derived.Deep.LoopGhost
namespace Go.Proofs.YtlpjhaghphmbeaaDoor
open Go.RowKit

theorem New.of_drew {a b : World} (h : New a.drew b) : New a b := ⟨h.os, h.tape, h.output, h.size, h.block⟩

set_option maxHeartbeats 400000 in
theorem closM_any (r : Int) (g : Nat) (j : Nat) (hj : j < 18) (w : World) (hr : w.cell? ⟨g, 0, none⟩ = some (.int .i32 r)) (hT : Tab w) :
    Calls Tryd.prog 98 #[.int .i64 j, .pointer (some ⟨g, 0, none⟩)] w fun e w' => e = .returned (.int .i64 (agI r (lo marksL j) (hi marksL j))) ∧ New w w' := by
  have c1 := (hT.marks.2 j hj).1
  have c2 := (hT.marks.2 j hj).2
  have j1 : (j : Int) < 18 := by omega
  clear hT
  go_enter Tryd.func98, Tryd.ntmps98
  go_wp2
  go_region_with (first | (go_at_call 99; go_must (refine (against_any r (lo marksL j) (hi marksL j) _).mono ?_); rintro e w1 ⟨rfl, h1⟩))
  all_goals
    first | go_wp2 | skip
    go_ret
    exact ⟨rfl, h1.of_drew⟩

set_option maxHeartbeats 400000 in
theorem closW_any (r : Int) (g : Nat) (j : Nat) (hj : j < 19) (w : World) (hr : w.cell? ⟨g, 0, none⟩ = some (.int .i32 r)) (hT : Tab w) :
    Calls Tryd.prog 100 #[.int .i64 j, .pointer (some ⟨g, 0, none⟩)] w fun e w' => e = .returned (.int .i64 (agI r (lo wideL j) (hi wideL j))) ∧ New w w' := by
  have c1 := (hT.wide.2 j hj).1
  have c2 := (hT.wide.2 j hj).2
  have j1 : (j : Int) < 19 := by omega
  clear hT
  go_enter Tryd.func100, Tryd.ntmps100
  go_wp2
  go_region_with (first | (go_at_call 99; go_must (refine (against_any r (lo wideL j) (hi wideL j) _).mono ?_); rintro e w1 ⟨rfl, h1⟩))
  all_goals
    first | go_wp2 | skip
    go_ret
    exact ⟨rfl, h1.of_drew⟩

end Go.Proofs.YtlpjhaghphmbeaaDoor
namespace Go.Proofs.YtlpjhaghphmbeaaDoor
open Go.RowKit

set_option maxHeartbeats 1000000 in
theorem findM_any (r : Int) (g : Nat) (w : World) (hr : w.cell? ⟨g, 0, none⟩ = some (.int .i32 r)) (hg : g < w.heap.size) (hT : Tab w) :
    Calls Tryd.prog 97 #[.int .i64 18, .func (.func 98) #[] #[.pointer (some ⟨g, 0, none⟩)]] w fun e w' => (∃ i : Int, e = .returned (.tuple #[.int .i64 i, .bool (inB marksL r)])) ∧ New w w' := by
  have HF : Hid (∀ (w' : World), New w w' → ∀ (j : Nat), j < 18 → Calls Tryd.prog 98 #[.int .i64 j, .pointer (some ⟨g, 0, none⟩)] w' fun e w'' => e = .returned (.int .i64 (agI r (lo marksL j) (hi marksL j))) ∧ New w' w'') :=
    Lib.hid fun w' hn j hj => closM_any r g j hj w' ((hn.cell (p := ⟨g, 0, none⟩) hg (fun h => h)).trans hr) (hT.new hn)
  clear hT hr
  go_enter Tryd.func97, Tryd.ntmps97
  go_wp2
  go_loopg [4, 6] 18 (fun kx s5 s6 wr => ∃ (l h : Nat), s5 = .int .i64 l ∧ s6 = .int .i64 h ∧ l ≤ h ∧ h ≤ 18 ∧ h - l ≤ kx ∧ New w wr ∧
    Hid ((∀ t, t < l → 0 < agI r (lo marksL t) (hi marksL t)) ∧ (∀ t, h ≤ t → t < 18 → agI r (lo marksL t) (hi marksL t) ≤ 0)))
  case atStart => exact ⟨0, 18, rfl, rfl, Nat.zero_le _, Nat.le_refl _, by omega, Fr.refl _ _, Lib.hid ⟨fun t ht => absurd ht (Nat.not_lt_zero _), fun t h1 h2 => by omega⟩⟩
  case round =>
    obtain ⟨l, h, rfl, rfl, hlh, hin, hk, hnew, I⟩ := hrel
    have HW := Lib.hid hnew
    clear hnew
    by_cases hlt : l < h
    · have hc := HF.out _ HW.out ((l + h) / 2) (by omega)
      rw [show (((l + h) / 2 : Nat) : Int) = ((l : Int) + (h : Int)) / 2 by omega] at hc
      by_cases hp : 0 < agI r (lo marksL ((l + h) / 2)) (hi marksL ((l + h) / 2))
      · have HP := Lib.hid hp
        go_wp2_with (go_at_call 98; refine hc.mono ?_; rintro e w' ⟨rfl, hn⟩; have HN := Lib.hid hn; clear hn)
        clear hp
        go_roundg (h - ((l + h) / 2 + 1))
        case measure => omega
        case rel =>
          exact ⟨(l + h) / 2 + 1, h, by rw [show ((l : Int) + (h : Int)) / 2 + 1 = (((l + h) / 2 + 1 : Nat) : Int) by omega], rfl, by omega, hin, Nat.le_refl _, HW.out.trans HN.out, Lib.hid ⟨fun t ht => ag_up marks_sorted r (by omega) (show (l + h) / 2 < 18 by omega) HP.out, I.out.2⟩⟩
      · have HP : Hid (¬ 0 < agI r (lo marksL ((l + h) / 2)) (hi marksL ((l + h) / 2))) := Lib.hid hp
        go_wp2_with (go_at_call 98; refine hc.mono ?_; rintro e w' ⟨rfl, hn⟩; have HN := Lib.hid hn; clear hn)
        clear hp
        go_roundg ((l + h) / 2 - l)
        case measure => omega
        case rel =>
          exact ⟨l, (l + h) / 2, rfl, by rw [show ((l : Int) + (h : Int)) / 2 = (((l + h) / 2 : Nat) : Int) by omega], by omega, by omega, Nat.le_refl _, HW.out.trans HN.out, Lib.hid ⟨I.out.1, fun t h1 h2 => Int.not_lt.1 fun h3 => absurd (ag_up marks_sorted r h1 h2 h3) (by have := HP.out; omega)⟩⟩
    · obtain rfl : h = l := by omega
      by_cases hl : h < 18
      · have hc := HF.out _ HW.out h hl
        have HB : Hid (inB marksL r = (agI r (lo marksL h) (hi marksL h) == 0)) := Lib.hid (by
          rw [Bool.eq_iff_iff, inB_iff]
          constructor
          · rintro ⟨j, hj, e⟩
            rcases Nat.lt_trichotomy j h with h1 | h1 | h1
            · have := I.out.1 j h1; omega
            · subst h1; simp [e]
            · have := I.out.2 h (Nat.le_refl _) hl
              have h5 := sorted_lt marks_sorted h j h1 hj
              have h6 := (marks_sorted h hl).1
              unfold agI at e this
              exfalso
              repeat' split at e
              all_goals repeat' split at this
              all_goals omega
          · intro e
            exact ⟨h, hl, by simpa using e⟩)
        go_wp2_with (go_at_call 98; refine hc.mono ?_; rintro e w' ⟨rfl, hn⟩; have HN := Lib.hid hn; clear hn)
        all_goals
          go_ret2
          exact ⟨⟨h, by rw [HB.out]; simp_all⟩, HW.out.trans HN.out⟩
      · have HB : Hid (inB marksL r = false) := Lib.hid (by
          rw [Bool.eq_false_iff, Ne, inB_iff]
          rintro ⟨j, hj, e⟩
          have := I.out.1 j (Nat.lt_of_lt_of_le hj (show marksL.length ≤ h by have : marksL.length = 18 := rfl; omega))
          omega)
        have j1 : ¬ (h : Int) < 18 := by omega
        go_wp2
        all_goals
          go_ret2
          exact ⟨⟨h, by rw [HB.out]; rfl⟩, HW.out⟩

set_option maxHeartbeats 1000000 in
theorem findW_any (r : Int) (g : Nat) (w : World) (hr : w.cell? ⟨g, 0, none⟩ = some (.int .i32 r)) (hg : g < w.heap.size) (hT : Tab w) :
    Calls Tryd.prog 97 #[.int .i64 19, .func (.func 100) #[] #[.pointer (some ⟨g, 0, none⟩)]] w fun e w' => (∃ i : Int, e = .returned (.tuple #[.int .i64 i, .bool (inB wideL r)])) ∧ New w w' := by
  have HF : Hid (∀ (w' : World), New w w' → ∀ (j : Nat), j < 19 → Calls Tryd.prog 100 #[.int .i64 j, .pointer (some ⟨g, 0, none⟩)] w' fun e w'' => e = .returned (.int .i64 (agI r (lo wideL j) (hi wideL j))) ∧ New w' w'') :=
    Lib.hid fun w' hn j hj => closW_any r g j hj w' ((hn.cell (p := ⟨g, 0, none⟩) hg (fun h => h)).trans hr) (hT.new hn)
  clear hT hr
  go_enter Tryd.func97, Tryd.ntmps97
  go_wp2
  go_loopg [4, 6] 19 (fun kx s5 s6 wr => ∃ (l h : Nat), s5 = .int .i64 l ∧ s6 = .int .i64 h ∧ l ≤ h ∧ h ≤ 19 ∧ h - l ≤ kx ∧ New w wr ∧
    Hid ((∀ t, t < l → 0 < agI r (lo wideL t) (hi wideL t)) ∧ (∀ t, h ≤ t → t < 19 → agI r (lo wideL t) (hi wideL t) ≤ 0)))
  case atStart => exact ⟨0, 19, rfl, rfl, Nat.zero_le _, Nat.le_refl _, by omega, Fr.refl _ _, Lib.hid ⟨fun t ht => absurd ht (Nat.not_lt_zero _), fun t h1 h2 => by omega⟩⟩
  case round =>
    obtain ⟨l, h, rfl, rfl, hlh, hin, hk, hnew, I⟩ := hrel
    have HW := Lib.hid hnew
    clear hnew
    by_cases hlt : l < h
    · have hc := HF.out _ HW.out ((l + h) / 2) (by omega)
      rw [show (((l + h) / 2 : Nat) : Int) = ((l : Int) + (h : Int)) / 2 by omega] at hc
      by_cases hp : 0 < agI r (lo wideL ((l + h) / 2)) (hi wideL ((l + h) / 2))
      · have HP := Lib.hid hp
        go_wp2_with (go_at_call 100; refine hc.mono ?_; rintro e w' ⟨rfl, hn⟩; have HN := Lib.hid hn; clear hn)
        clear hp
        go_roundg (h - ((l + h) / 2 + 1))
        case measure => omega
        case rel =>
          exact ⟨(l + h) / 2 + 1, h, by rw [show ((l : Int) + (h : Int)) / 2 + 1 = (((l + h) / 2 + 1 : Nat) : Int) by omega], rfl, by omega, hin, Nat.le_refl _, HW.out.trans HN.out, Lib.hid ⟨fun t ht => ag_up wide_sorted r (by omega) (show (l + h) / 2 < 19 by omega) HP.out, I.out.2⟩⟩
      · have HP : Hid (¬ 0 < agI r (lo wideL ((l + h) / 2)) (hi wideL ((l + h) / 2))) := Lib.hid hp
        go_wp2_with (go_at_call 100; refine hc.mono ?_; rintro e w' ⟨rfl, hn⟩; have HN := Lib.hid hn; clear hn)
        clear hp
        go_roundg ((l + h) / 2 - l)
        case measure => omega
        case rel =>
          exact ⟨l, (l + h) / 2, rfl, by rw [show ((l : Int) + (h : Int)) / 2 = (((l + h) / 2 : Nat) : Int) by omega], by omega, by omega, Nat.le_refl _, HW.out.trans HN.out, Lib.hid ⟨I.out.1, fun t h1 h2 => Int.not_lt.1 fun h3 => absurd (ag_up wide_sorted r h1 h2 h3) (by have := HP.out; omega)⟩⟩
    · obtain rfl : h = l := by omega
      by_cases hl : h < 19
      · have hc := HF.out _ HW.out h hl
        have HB : Hid (inB wideL r = (agI r (lo wideL h) (hi wideL h) == 0)) := Lib.hid (by
          rw [Bool.eq_iff_iff, inB_iff]
          constructor
          · rintro ⟨j, hj, e⟩
            rcases Nat.lt_trichotomy j h with h1 | h1 | h1
            · have := I.out.1 j h1; omega
            · subst h1; simp [e]
            · have := I.out.2 h (Nat.le_refl _) hl
              have h5 := sorted_lt wide_sorted h j h1 hj
              have h6 := (wide_sorted h hl).1
              unfold agI at e this
              exfalso
              repeat' split at e
              all_goals repeat' split at this
              all_goals omega
          · intro e
            exact ⟨h, hl, by simpa using e⟩)
        go_wp2_with (go_at_call 100; refine hc.mono ?_; rintro e w' ⟨rfl, hn⟩; have HN := Lib.hid hn; clear hn)
        all_goals
          go_ret2
          exact ⟨⟨h, by rw [HB.out]; simp_all⟩, HW.out.trans HN.out⟩
      · have HB : Hid (inB wideL r = false) := Lib.hid (by
          rw [Bool.eq_false_iff, Ne, inB_iff]
          rintro ⟨j, hj, e⟩
          have := I.out.1 j (Nat.lt_of_lt_of_le hj (show wideL.length ≤ h by have : wideL.length = 19 := rfl; omega))
          omega)
        have j1 : ¬ (h : Int) < 19 := by omega
        go_wp2
        all_goals
          go_ret2
          exact ⟨⟨h, by rw [HB.out]; rfl⟩, HW.out⟩


set_option maxHeartbeats 400000 in
theorem isMark_any (r : Int) (w : World) (hT : Tab w) :
    Calls Tryd.prog 88 #[.int .i32 r] w fun e w' => e = .returned (.bool (inB marksL r)) ∧ New w w' := by
  have H := Lib.hid hT
  clear hT
  go_enter Tryd.func88, Tryd.ntmps88
  go_wp2_with (go_at_call 97; refine (findM_any r w.heap.size _ (Blk.cell (Blk.new w _ _) 0) (by simp) (H.out.new (New.alloc _))).mono ?_; rintro e w1 ⟨⟨i, rfl⟩, hn⟩; have HN := Lib.hid hn; clear hn)
  go_ret
  exact ⟨rfl, (New.alloc _).trans HN.out⟩

set_option maxHeartbeats 400000 in
theorem isWide_any (r : Int) (w : World) (hT : Tab w) :
    Calls Tryd.prog 89 #[.int .i32 r] w fun e w' => e = .returned (.bool (inB wideL r)) ∧ New w w' := by
  have H := Lib.hid hT
  clear hT
  go_enter Tryd.func89, Tryd.ntmps89
  go_wp2_with (go_at_call 97; refine (findW_any r w.heap.size _ (Blk.cell (Blk.new w _ _) 0) (by simp) (H.out.new (New.alloc _))).mono ?_; rintro e w1 ⟨⟨i, rfl⟩, hn⟩; have HN := Lib.hid hn; clear hn)
  go_ret
  exact ⟨rfl, (New.alloc _).trans HN.out⟩

end Go.Proofs.YtlpjhaghphmbeaaDoor
namespace Go.Proofs.YtlpjhaghphmbeaaDoor
open Go.RowKit

theorem of_not {r : Int} (h : printedB r = false) : ofI r = -1 := by unfold ofI; rw [if_pos h]
theorem of_mark {r : Int} (h : printedB r = true) (hm : inB marksL r = true) : ofI r = 0 := by unfold ofI; rw [if_neg (by simp [h]), if_pos hm]
theorem of_wide {r : Int} (h : printedB r = true) (hm : inB marksL r = false) (hw : inB wideL r = true) : ofI r = 2 := by unfold ofI; rw [if_neg (by simp [h]), if_neg (by simp [hm]), if_pos hw]
theorem of_one {r : Int} (h : printedB r = true) (hm : inB marksL r = false) (hw : inB wideL r = false) : ofI r = 1 := by unfold ofI; rw [if_neg (by simp [h]), if_neg (by simp [hm]), if_neg (by simp [hw])]

set_option maxHeartbeats 400000 in
theorem Of_any (r : Int) (w : World) (hT : Tab w) :
    Calls Tryd.prog 81 #[.int .i32 r] w fun e w' => e = .returned (.int .i64 (ofI r)) ∧ New w w' := by
  have H := Lib.hid hT
  clear hT
  cases hp : printedB r with
  | false =>
    have c1 := fun w => printed_any r w
    rw [hp] at c1
    go_enter Tryd.func81, Tryd.ntmps81
    go_wp2_with (go_at_call 87; refine (c1 _).mono ?_; rintro e w1 ⟨rfl, rfl⟩)
    go_ret
    exact ⟨ret_int (of_not hp).symm, Fr.refl _ _⟩
  | true =>
    have c1 := fun w => printed_any r w
    rw [hp] at c1
    cases hm : inB marksL r with
    | true =>
      have c2 := fun w h => isMark_any r w h
      rw [hm] at c2
      go_enter Tryd.func81, Tryd.ntmps81
      go_wp2_with (first
        | (go_at_call 87; refine (c1 _).mono ?_; rintro e w1 ⟨rfl, rfl⟩)
        | (go_at_call 88; refine (c2 _ H.out).mono ?_; rintro e w2 ⟨rfl, hn2⟩; have HN2 := Lib.hid hn2; clear hn2))
      go_ret
      exact ⟨ret_int (of_mark hp hm).symm, HN2.out⟩
    | false =>
      have c2 := fun w h => isMark_any r w h
      rw [hm] at c2
      cases hw : inB wideL r with
      | true =>
        have c3 := fun w h => isWide_any r w h
        rw [hw] at c3
        go_enter Tryd.func81, Tryd.ntmps81
        go_wp2_with (first
          | (go_at_call 87; refine (c1 _).mono ?_; rintro e w1 ⟨rfl, rfl⟩)
          | (go_at_call 88; refine (c2 _ H.out).mono ?_; rintro e w2 ⟨rfl, hn2⟩; have HN2 := Lib.hid hn2; clear hn2)
          | (go_at_call 89; refine (c3 _ (H.out.new HN2.out)).mono ?_; rintro e w3 ⟨rfl, hn3⟩; have HN3 := Lib.hid hn3; clear hn3))
        go_ret
        exact ⟨ret_int (of_wide hp hm hw).symm, HN2.out.trans HN3.out⟩
      | false =>
        have c3 := fun w h => isWide_any r w h
        rw [hw] at c3
        go_enter Tryd.func81, Tryd.ntmps81
        go_wp2_with (first
          | (go_at_call 87; refine (c1 _).mono ?_; rintro e w1 ⟨rfl, rfl⟩)
          | (go_at_call 88; refine (c2 _ H.out).mono ?_; rintro e w2 ⟨rfl, hn2⟩; have HN2 := Lib.hid hn2; clear hn2)
          | (go_at_call 89; refine (c3 _ (H.out.new HN2.out)).mono ?_; rintro e w3 ⟨rfl, hn3⟩; have HN3 := Lib.hid hn3; clear hn3))
        go_ret
        exact ⟨ret_int (of_one hp hm hw).symm, HN2.out.trans HN3.out⟩

end Go.Proofs.YtlpjhaghphmbeaaDoor
namespace Go.Proofs.YtlpjhaghphmbeaaDoor
open Go.RowKit

theorem blk_arr {w : World} (t : TypeId) (cs : Array Value) (l : List (Int × Int)) (h : cs = arr l) : Blk (w.alloc (.cells cs t)) w.heap.size t (arr l) := by
  subst h
  exact Blk.new w t _

set_option maxHeartbeats 1000000 in
theorem RMarks_any (w : World) :
    Calls Tryd.prog 93 #[] w fun e w' => ∃ b, e = .returned (.slice (some ⟨b, 0, none⟩) 18 18) ∧ Blk w' b 129 (arr marksL) ∧ w.heap.size ≤ b ∧ New w w' := by
  go_enter Tryd.func93, Tryd.ntmps93
  go_wp2
  go_ret
  exact ⟨_, rfl, blk_arr _ _ _ rfl, Nat.le_refl _, New.alloc _⟩

set_option maxHeartbeats 1000000 in
theorem RWide_any (w : World) :
    Calls Tryd.prog 94 #[] w fun e w' => ∃ b, e = .returned (.slice (some ⟨b, 0, none⟩) 19 19) ∧ Blk w' b 129 (arr wideL) ∧ w.heap.size ≤ b ∧ New w w' := by
  go_enter Tryd.func94, Tryd.ntmps94
  go_wp2
  go_ret
  exact ⟨_, rfl, blk_arr _ _ _ rfl, Nat.le_refl _, New.alloc _⟩

theorem Rg.of_blk {w : World} {b : Nat} {l : List (Int × Int)} {t : TypeId} (h : Blk w b t (arr l)) : Rg w b l := Rg.of_heap h

theorem upto_succ {P : Nat → Prop} {k : Nat} (h : ∀ t, t < k → P t) (hk : P k) : ∀ t, t < k + 1 → P t := by
  intro t ht
  rcases Nat.lt_or_ge t k with h1 | h1
  · exact h t h1
  · have e : t = k := by omega
    rw [e]
    exact hk
theorem ag_ne {r a b : Int} (h : ¬ (a ≤ r ∧ r ≤ b)) : agI r a b ≠ 0 := by
  unfold agI
  by_cases h1 : r < a
  · rw [if_pos h1]; omega
  · rw [if_neg h1]
    by_cases h2 : b < r
    · rw [if_pos h2]; omega
    · omega

set_option maxHeartbeats 1000000 in
theorem RIn_any (l : List (Int × Int)) (n : Nat) (hn : l.length = n) (hl : n ≤ 1000) (r : Int) (b cap : Nat) (w : World) (h : Rg w b l) :
    Calls Tryd.prog 92 #[.slice (some ⟨b, 0, none⟩) n cap, .int .i32 r] w fun e w' => e = .returned (.bool (inB l r)) ∧ w = w' := by
  have HR := Lib.hid h
  clear h
  have HL := Lib.hid hn
  clear hn
  go_enter Tryd.func92, Tryd.ntmps92
  go_wp2
  go_loop [5] (fun i => ∃ k : Nat, k ≤ n ∧ i = .int .i64 k ∧ Hid (∀ t, t < k → agI r (lo l t) (hi l t) ≠ 0)) (fun i => n - (intOf i).toNat)
  case atStart => exact ⟨0, by omega, rfl, Lib.hid fun t ht => absurd ht (Nat.not_lt_zero _)⟩
  case round =>
    obtain ⟨k, hk, rfl, I⟩ := hrel
    by_cases hlt : k < n
    · have c1 := (HR.out.2 k (by rw [HL.out]; exact hlt)).1
      have c2 := (HR.out.2 k (by rw [HL.out]; exact hlt)).2
      have j1 : (k : Int) < (n : Int) := by omega
      by_cases hin : lo l k ≤ r ∧ r ≤ hi l k
      · obtain ⟨h1, h2⟩ := hin
        have HB : Hid (inB l r = true) := Lib.hid ((inB_iff l r).2 ⟨k, by rw [HL.out]; exact hlt, by unfold agI; rw [if_neg (by omega), if_neg (by omega)]⟩)
        go_wp2
        go_ret
        exact ⟨ret_bool HB.out.symm, rfl⟩
      · have HN : Hid (agI r (lo l k) (hi l k) ≠ 0) := Lib.hid (ag_ne hin)
        by_cases hin1 : lo l k ≤ r
        · have hin2 : ¬ r ≤ hi l k := fun h => hin ⟨hin1, h⟩
          clear hin
          go_wp2
          go_round
          case rel => exact ⟨k + 1, by omega, by go_num, Lib.hid upto_succ I.out HN.out⟩
          case measure => simp [intOf]; omega
        · clear hin
          go_wp2
          go_round
          case rel => exact ⟨k + 1, by omega, by go_num, Lib.hid upto_succ I.out HN.out⟩
          case measure => simp [intOf]; omega
    · have j1 : ¬ (k : Int) < (n : Int) := by omega
      have HB : Hid (inB l r = false) := Lib.hid (by
        rw [Bool.eq_false_iff, Ne, inB_iff]
        rintro ⟨j, hj, e⟩
        exact I.out j (by have := HL.out; omega) e)
      go_wp2
      go_ret
      exact ⟨ret_bool HB.out.symm, rfl⟩

set_option maxHeartbeats 400000 in
theorem ROf_any (r : Int) (w : World) :
    Calls Tryd.prog 85 #[.int .i32 r] w fun e w' => e = .returned (.int .i64 (ofI r)) ∧ New w w' := by
  cases hp : printedB r with
  | false =>
    have c1 := fun w => Printed_any r w
    rw [hp] at c1
    go_enter Tryd.func85, Tryd.ntmps85
    go_wp2_with (go_at_call 91; refine (c1 _).mono ?_; rintro e w1 ⟨rfl, rfl⟩)
    go_ret
    exact ⟨ret_int (of_not hp).symm, Fr.refl _ _⟩
  | true =>
    have c1 := fun w => Printed_any r w
    rw [hp] at c1
    cases hm : inB marksL r with
    | true =>
      have c2 := fun b cap w h => RIn_any marksL 18 rfl (by omega) r b cap w h
      rw [hm] at c2
      go_enter Tryd.func85, Tryd.ntmps85
      go_wp2_with (first
        | (go_at_call 91; refine (c1 _).mono ?_; rintro e w1 ⟨rfl, rfl⟩)
        | (go_at_call 93; refine (RMarks_any _).mono ?_; rintro e w2 ⟨b2, rfl, hb2, -, hn2⟩; have HB2 := Lib.hid hb2; have HN2 := Lib.hid hn2; clear hb2 hn2)
        | (go_at_call 92; refine (c2 _ _ _ (Rg.of_blk HB2.out)).mono ?_; rintro e w3 ⟨rfl, rfl⟩))
      go_ret
      exact ⟨ret_int (of_mark hp hm).symm, HN2.out⟩
    | false =>
      have c2 := fun b cap w h => RIn_any marksL 18 rfl (by omega) r b cap w h
      rw [hm] at c2
      cases hw : inB wideL r with
      | true =>
        have c3 := fun b cap w h => RIn_any wideL 19 rfl (by omega) r b cap w h
        rw [hw] at c3
        go_enter Tryd.func85, Tryd.ntmps85
        go_wp2_with fail
        refine (c1 _).mono ?_
        rintro e w1 ⟨rfl, rfl⟩
        go_wp2_with fail
        refine (RMarks_any _).mono ?_
        rintro e w2 ⟨b2, rfl, hb2, -, hn2⟩
        have HB2 := Lib.hid hb2
        have HN2 := Lib.hid hn2
        clear hb2 hn2
        go_wp2_with fail
        refine (c2 _ _ _ (Rg.of_blk HB2.out)).mono ?_
        rintro e w3 ⟨rfl, rfl⟩
        go_wp2_with fail
        refine (RWide_any _).mono ?_
        rintro e w4 ⟨b4, rfl, hb4, -, hn4⟩
        have HB4 := Lib.hid hb4
        have HN4 := Lib.hid hn4
        clear hb4 hn4
        go_wp2_with fail
        refine (c3 _ _ _ (Rg.of_blk HB4.out)).mono ?_
        rintro e w5 ⟨rfl, rfl⟩
        go_wp2_with fail
        go_ret
        exact ⟨ret_int (of_wide hp hm hw).symm, HN2.out.trans HN4.out⟩
      | false =>
        have c3 := fun b cap w h => RIn_any wideL 19 rfl (by omega) r b cap w h
        rw [hw] at c3
        go_enter Tryd.func85, Tryd.ntmps85
        go_wp2_with fail
        refine (c1 _).mono ?_
        rintro e w1 ⟨rfl, rfl⟩
        go_wp2_with fail
        refine (RMarks_any _).mono ?_
        rintro e w2 ⟨b2, rfl, hb2, -, hn2⟩
        have HB2 := Lib.hid hb2
        have HN2 := Lib.hid hn2
        clear hb2 hn2
        go_wp2_with fail
        refine (c2 _ _ _ (Rg.of_blk HB2.out)).mono ?_
        rintro e w3 ⟨rfl, rfl⟩
        go_wp2_with fail
        refine (RWide_any _).mono ?_
        rintro e w4 ⟨b4, rfl, hb4, -, hn4⟩
        have HB4 := Lib.hid hb4
        have HN4 := Lib.hid hn4
        clear hb4 hn4
        go_wp2_with fail
        refine (c3 _ _ _ (Rg.of_blk HB4.out)).mono ?_
        rintro e w5 ⟨rfl, rfl⟩
        go_wp2_with fail
        go_ret
        exact ⟨ret_int (of_one hp hm hw).symm, HN2.out.trans HN4.out⟩

end Go.Proofs.YtlpjhaghphmbeaaDoor
