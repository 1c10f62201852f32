/-
  The library's Find, over either table; isMark, isWide.
-/
import Derived.Test.YtjcpdldaimebbaaDoorWClos
import Derived.Deep.LoopGhost
namespace Go.Proofs.YtjcpdldaimebbaaDoor
open Go.RowKit

set_option maxHeartbeats 1000000 in
theorem findM_any (r : Int) (g : Nat) (w : World) (hr : w.cell? ⟨g, 0, none⟩ = some (.int .i32 r)) (hg : g < w.heap.size) (hT : Tab w) :
    Calls Tryd.prog 82 #[.int .i64 18, .func (.func 83) #[] #[.pointer (some ⟨g, 0, none⟩)]] w fun e w' => (∃ i : Int, e = .returned (.tuple #[.int .i64 i, .bool (inB marksL r)])) ∧ New w w' := by
  have HF : Hid (∀ (w' : World), New w w' → ∀ (j : Nat), j < 18 → Calls Tryd.prog 83 #[.int .i64 j, .pointer (some ⟨g, 0, none⟩)] w' fun e w'' => e = .returned (.int .i64 (agI r (lo marksL j) (hi marksL j))) ∧ New w' w'') :=
    Lib.hid fun w' hn j hj => closM_any r g j hj w' ((hn.cell (p := ⟨g, 0, none⟩) hg (fun h => h)).trans hr) (hT.new hn)
  clear hT hr
  go_enter Tryd.func82, Tryd.ntmps82
  go_wp2
  go_loopg [4, 6] 18 (fun kx s5 s6 wr => ∃ (l h : Nat), s5 = .int .i64 l ∧ s6 = .int .i64 h ∧ l ≤ h ∧ h ≤ 18 ∧ h - l ≤ kx ∧ New w wr ∧
    Hid ((∀ t, t < l → 0 < agI r (lo marksL t) (hi marksL t)) ∧ (∀ t, h ≤ t → t < 18 → agI r (lo marksL t) (hi marksL t) ≤ 0)))
  case atStart => exact ⟨0, 18, rfl, rfl, Nat.zero_le _, Nat.le_refl _, by omega, Fr.refl _ _, Lib.hid ⟨fun t ht => absurd ht (Nat.not_lt_zero _), fun t h1 h2 => by omega⟩⟩
  case round =>
    obtain ⟨l, h, rfl, rfl, hlh, hin, hk, hnew, I⟩ := hrel
    have HW := Lib.hid hnew
    clear hnew
    by_cases hlt : l < h
    · have hc := HF.out _ HW.out ((l + h) / 2) (by omega)
      rw [show (((l + h) / 2 : Nat) : Int) = ((l : Int) + (h : Int)) / 2 by omega] at hc
      by_cases hp : 0 < agI r (lo marksL ((l + h) / 2)) (hi marksL ((l + h) / 2))
      · have HP := Lib.hid hp
        go_wp2_with (go_at_call 83; refine hc.mono ?_; rintro e w' ⟨rfl, hn⟩; have HN := Lib.hid hn; clear hn)
        clear hp
        go_roundg (h - ((l + h) / 2 + 1))
        case measure => omega
        case rel =>
          exact ⟨(l + h) / 2 + 1, h, by rw [show ((l : Int) + (h : Int)) / 2 + 1 = (((l + h) / 2 + 1 : Nat) : Int) by omega], rfl, by omega, hin, Nat.le_refl _, HW.out.trans HN.out, Lib.hid ⟨fun t ht => ag_up marks_sorted r (by omega) (show (l + h) / 2 < 18 by omega) HP.out, I.out.2⟩⟩
      · have HP : Hid (¬ 0 < agI r (lo marksL ((l + h) / 2)) (hi marksL ((l + h) / 2))) := Lib.hid hp
        go_wp2_with (go_at_call 83; refine hc.mono ?_; rintro e w' ⟨rfl, hn⟩; have HN := Lib.hid hn; clear hn)
        clear hp
        go_roundg ((l + h) / 2 - l)
        case measure => omega
        case rel =>
          exact ⟨l, (l + h) / 2, rfl, by rw [show ((l : Int) + (h : Int)) / 2 = (((l + h) / 2 : Nat) : Int) by omega], by omega, by omega, Nat.le_refl _, HW.out.trans HN.out, Lib.hid ⟨I.out.1, fun t h1 h2 => Int.not_lt.1 fun h3 => absurd (ag_up marks_sorted r h1 h2 h3) (by have := HP.out; omega)⟩⟩
    · obtain rfl : h = l := by omega
      by_cases hl : h < 18
      · have hc := HF.out _ HW.out h hl
        have HB : Hid (inB marksL r = (agI r (lo marksL h) (hi marksL h) == 0)) := Lib.hid (by
          rw [Bool.eq_iff_iff, inB_iff]
          constructor
          · rintro ⟨j, hj, e⟩
            rcases Nat.lt_trichotomy j h with h1 | h1 | h1
            · have := I.out.1 j h1; omega
            · subst h1; simp [e]
            · have := I.out.2 h (Nat.le_refl _) hl
              have h5 := sorted_lt marks_sorted h j h1 hj
              have h6 := (marks_sorted h hl).1
              unfold agI at e this
              exfalso
              repeat' split at e
              all_goals repeat' split at this
              all_goals omega
          · intro e
            exact ⟨h, hl, by simpa using e⟩)
        go_wp2_with (go_at_call 83; refine hc.mono ?_; rintro e w' ⟨rfl, hn⟩; have HN := Lib.hid hn; clear hn)
        all_goals
          go_ret2
          exact ⟨⟨h, by rw [HB.out]; simp_all⟩, HW.out.trans HN.out⟩
      · have HB : Hid (inB marksL r = false) := Lib.hid (by
          rw [Bool.eq_false_iff, Ne, inB_iff]
          rintro ⟨j, hj, e⟩
          have := I.out.1 j (Nat.lt_of_lt_of_le hj (show marksL.length ≤ h by have : marksL.length = 18 := rfl; omega))
          omega)
        have j1 : ¬ (h : Int) < 18 := by omega
        go_wp2
        all_goals
          go_ret2
          exact ⟨⟨h, by rw [HB.out]; rfl⟩, HW.out⟩

set_option maxHeartbeats 1000000 in
theorem findW_any (r : Int) (g : Nat) (w : World) (hr : w.cell? ⟨g, 0, none⟩ = some (.int .i32 r)) (hg : g < w.heap.size) (hT : Tab w) :
    Calls Tryd.prog 82 #[.int .i64 19, .func (.func 85) #[] #[.pointer (some ⟨g, 0, none⟩)]] w fun e w' => (∃ i : Int, e = .returned (.tuple #[.int .i64 i, .bool (inB wideL r)])) ∧ New w w' := by
  have HF : Hid (∀ (w' : World), New w w' → ∀ (j : Nat), j < 19 → Calls Tryd.prog 85 #[.int .i64 j, .pointer (some ⟨g, 0, none⟩)] w' fun e w'' => e = .returned (.int .i64 (agI r (lo wideL j) (hi wideL j))) ∧ New w' w'') :=
    Lib.hid fun w' hn j hj => closW_any r g j hj w' ((hn.cell (p := ⟨g, 0, none⟩) hg (fun h => h)).trans hr) (hT.new hn)
  clear hT hr
  go_enter Tryd.func82, Tryd.ntmps82
  go_wp2
  go_loopg [4, 6] 19 (fun kx s5 s6 wr => ∃ (l h : Nat), s5 = .int .i64 l ∧ s6 = .int .i64 h ∧ l ≤ h ∧ h ≤ 19 ∧ h - l ≤ kx ∧ New w wr ∧
    Hid ((∀ t, t < l → 0 < agI r (lo wideL t) (hi wideL t)) ∧ (∀ t, h ≤ t → t < 19 → agI r (lo wideL t) (hi wideL t) ≤ 0)))
  case atStart => exact ⟨0, 19, rfl, rfl, Nat.zero_le _, Nat.le_refl _, by omega, Fr.refl _ _, Lib.hid ⟨fun t ht => absurd ht (Nat.not_lt_zero _), fun t h1 h2 => by omega⟩⟩
  case round =>
    obtain ⟨l, h, rfl, rfl, hlh, hin, hk, hnew, I⟩ := hrel
    have HW := Lib.hid hnew
    clear hnew
    by_cases hlt : l < h
    · have hc := HF.out _ HW.out ((l + h) / 2) (by omega)
      rw [show (((l + h) / 2 : Nat) : Int) = ((l : Int) + (h : Int)) / 2 by omega] at hc
      by_cases hp : 0 < agI r (lo wideL ((l + h) / 2)) (hi wideL ((l + h) / 2))
      · have HP := Lib.hid hp
        go_wp2_with (go_at_call 85; refine hc.mono ?_; rintro e w' ⟨rfl, hn⟩; have HN := Lib.hid hn; clear hn)
        clear hp
        go_roundg (h - ((l + h) / 2 + 1))
        case measure => omega
        case rel =>
          exact ⟨(l + h) / 2 + 1, h, by rw [show ((l : Int) + (h : Int)) / 2 + 1 = (((l + h) / 2 + 1 : Nat) : Int) by omega], rfl, by omega, hin, Nat.le_refl _, HW.out.trans HN.out, Lib.hid ⟨fun t ht => ag_up wide_sorted r (by omega) (show (l + h) / 2 < 19 by omega) HP.out, I.out.2⟩⟩
      · have HP : Hid (¬ 0 < agI r (lo wideL ((l + h) / 2)) (hi wideL ((l + h) / 2))) := Lib.hid hp
        go_wp2_with (go_at_call 85; refine hc.mono ?_; rintro e w' ⟨rfl, hn⟩; have HN := Lib.hid hn; clear hn)
        clear hp
        go_roundg ((l + h) / 2 - l)
        case measure => omega
        case rel =>
          exact ⟨l, (l + h) / 2, rfl, by rw [show ((l : Int) + (h : Int)) / 2 = (((l + h) / 2 : Nat) : Int) by omega], by omega, by omega, Nat.le_refl _, HW.out.trans HN.out, Lib.hid ⟨I.out.1, fun t h1 h2 => Int.not_lt.1 fun h3 => absurd (ag_up wide_sorted r h1 h2 h3) (by have := HP.out; omega)⟩⟩
    · obtain rfl : h = l := by omega
      by_cases hl : h < 19
      · have hc := HF.out _ HW.out h hl
        have HB : Hid (inB wideL r = (agI r (lo wideL h) (hi wideL h) == 0)) := Lib.hid (by
          rw [Bool.eq_iff_iff, inB_iff]
          constructor
          · rintro ⟨j, hj, e⟩
            rcases Nat.lt_trichotomy j h with h1 | h1 | h1
            · have := I.out.1 j h1; omega
            · subst h1; simp [e]
            · have := I.out.2 h (Nat.le_refl _) hl
              have h5 := sorted_lt wide_sorted h j h1 hj
              have h6 := (wide_sorted h hl).1
              unfold agI at e this
              exfalso
              repeat' split at e
              all_goals repeat' split at this
              all_goals omega
          · intro e
            exact ⟨h, hl, by simpa using e⟩)
        go_wp2_with (go_at_call 85; refine hc.mono ?_; rintro e w' ⟨rfl, hn⟩; have HN := Lib.hid hn; clear hn)
        all_goals
          go_ret2
          exact ⟨⟨h, by rw [HB.out]; simp_all⟩, HW.out.trans HN.out⟩
      · have HB : Hid (inB wideL r = false) := Lib.hid (by
          rw [Bool.eq_false_iff, Ne, inB_iff]
          rintro ⟨j, hj, e⟩
          have := I.out.1 j (Nat.lt_of_lt_of_le hj (show wideL.length ≤ h by have : wideL.length = 19 := rfl; omega))
          omega)
        have j1 : ¬ (h : Int) < 19 := by omega
        go_wp2
        all_goals
          go_ret2
          exact ⟨⟨h, by rw [HB.out]; rfl⟩, HW.out⟩


set_option maxHeartbeats 400000 in
theorem isMark_any (r : Int) (w : World) (hT : Tab w) :
    Calls Tryd.prog 73 #[.int .i32 r] w fun e w' => e = .returned (.bool (inB marksL r)) ∧ New w w' := by
  have H := Lib.hid hT
  clear hT
  go_enter Tryd.func73, Tryd.ntmps73
  go_wp2_with (go_at_call 82; refine (findM_any r w.heap.size _ (Blk.cell (Blk.new w _ _) 0) (by simp) (H.out.new (New.alloc _))).mono ?_; rintro e w1 ⟨⟨i, rfl⟩, hn⟩; have HN := Lib.hid hn; clear hn)
  go_ret
  exact ⟨rfl, (New.alloc _).trans HN.out⟩

set_option maxHeartbeats 400000 in
theorem isWide_any (r : Int) (w : World) (hT : Tab w) :
    Calls Tryd.prog 74 #[.int .i32 r] w fun e w' => e = .returned (.bool (inB wideL r)) ∧ New w w' := by
  have H := Lib.hid hT
  clear hT
  go_enter Tryd.func74, Tryd.ntmps74
  go_wp2_with (go_at_call 82; refine (findW_any r w.heap.size _ (Blk.cell (Blk.new w _ _) 0) (by simp) (H.out.new (New.alloc _))).mono ?_; rintro e w1 ⟨⟨i, rfl⟩, hn⟩; have HN := Lib.hid hn; clear hn)
  go_ret
  exact ⟨rfl, (New.alloc _).trans HN.out⟩

end Go.Proofs.YtjcpdldaimebbaaDoor
