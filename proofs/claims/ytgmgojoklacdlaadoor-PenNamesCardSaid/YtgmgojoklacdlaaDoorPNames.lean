/-
  The statement on the words of the flags.
-/
import Derived.Test.YtgmgojoklacdlaaDoorKnown
namespace Go.Proofs.YtgmgojoklacdlaaDoor
open Go.RowKit

theorem Tab.drewN {w : World} (h : Tab w) (n : Nat) : Tab (w.drewN n) := ⟨h.m⟩
theorem Tab.drew {w : World} (h : Tab w) : Tab w.drew := ⟨h.m⟩
/-- Whether a word is one of the first k. -/
def fd : Nat → ByteArray → Bool
  | 0, _ => false
  | k + 1, s => fd k s || ((wordS k).toList == s.toList)
theorem fd_no {k : Nat} {s : ByteArray} (h : fd k s = false) : ∀ j, j < k → wordS j ≠ s := by
  induction k with
  | zero => intro j hj; omega
  | succ k ih =>
    simp only [fd, Bool.or_eq_false_iff] at h
    intro j hj e
    rcases Nat.lt_succ_iff_lt_or_eq.1 hj with h1 | rfl
    · exact ih h.1 j h1 e
    · rw [e] at h
      simp at h

set_option maxHeartbeats 8000000 in
theorem names_walk (f : Int) (h0 : 0 ≤ f) (h1 : f ≤ 255) (s : ByteArray) (hs : s.size ≤ maxLen) (w : World) (hT : Tab w) :
    Calls Tryd.prog 6 #[.int .u8 f, .string s] w fun e w' => e = .returned (.bool true) ∧ New w w' := by
  have HT := Lib.hid hT
  clear hT
  unfold maxLen at hs
  by_cases hl : 40 < s.size
  · go_enter Tryd.func6, Tryd.ntmps6
    go_wp2_with fail
    refine (known_any _ HT.out).mono ?_
    rintro e w1 ⟨rfl, hn⟩
    have HN := Lib.hid hn
    clear hn
    go_wp2_with fail
    go_ret
    exact ⟨rfl, HN.out⟩
  · go_enter Tryd.func6, Tryd.ntmps6
    go_wp2_with fail
    refine (All_any _).mono ?_
    rintro e w1 ⟨b, rfl, hb, -, hn⟩
    have HN := Lib.hid hn
    have HA := Lib.hid hb
    clear hn hb
    go_wp2_with fail
    refine (RWords_any _).mono ?_
    rintro e w2 ⟨bw, tw, rfl, hb, hn⟩
    have HN := Lib.hid (HN.out.trans hn)
    have HA := Lib.hid (HA.out.fr hn (fun h => h))
    have HW := Lib.hid hb
    clear hn hb
    go_wp2_with fail
    go_loopw [6, 7, 8, 19] (fun x _ _ i wr => ∃ (k : Nat) (z : Int), (k : Int) = z ∧ k ≤ 8 ∧ i = .int .i64 z ∧ x = .bool (fd k s) ∧ New w wr ∧ Blk wr b 25 (flagsV 8) ∧ Blk wr bw tw wordsA) (fun _ _ _ i _ => 8 - (intOf i).toNat)
    case atStart => exact ⟨0, 0, rfl, by omega, rfl, rfl, HN.out, HA.out, HW.out⟩
    case round =>
    obtain ⟨k, z, hz, hk, rfl, rfl, hn, ha, hw⟩ := hrel
    have HN := Lib.hid hn
    have HA := Lib.hid ha
    have HW := Lib.hid hw
    have HTd := Lib.hid (HT.out.new hn)
    clear hn ha hw
    by_cases h8 : k = 8
    · subst h8
      obtain rfl : z = 8 := hz.symm
      cases hfd : fd 8 s with
      | true =>
        clear hfd
        go_wp2_with fail
        refine (Number_any f h0 h1 _).mono ?_
        rintro e w3 ⟨⟨n, rfl, hp, hq⟩, rfl⟩
        cases hf : flagB f with
        | true =>
          have hnn := hp hf
          clear hp hq
          go_wp2_with fail
          refine (known_any _ (HT.out.new HN.out)).mono ?_
          rintro e w4 ⟨rfl, hn⟩
          have HN := Lib.hid (HN.out.trans hn)
          clear hn
          go_wp2_with fail
          go_ret
          exact ⟨rfl, HN.out⟩
        | false =>
          obtain rfl := hq hf
          clear hp hq
          go_wp2_with fail
          refine (word_no f h0 h1 hf _).mono ?_
          rintro e w4 ⟨rfl, rfl⟩
          go_wp2_with fail
          refine (known_any _ (HT.out.new HN.out)).mono ?_
          rintro e w4 ⟨rfl, hn⟩
          have HN := Lib.hid (HN.out.trans hn)
          clear hn
          go_wp2_with fail
          go_ret
          exact ⟨rfl, HN.out⟩
      | false =>
        have HD := Lib.hid (fd_no hfd)
        clear hfd
        go_wp2_with fail
        refine (byWord_no s HD.out _ (HT.out.new HN.out)).mono ?_
        rintro e w3 ⟨rfl, rfl⟩
        go_wp2_with fail
        refine (Number_any f h0 h1 _).mono ?_
        rintro e w3 ⟨⟨n, rfl, hp, hq⟩, rfl⟩
        cases hf : flagB f with
        | true =>
          have hnn := hp hf
          clear hp hq
          go_wp2_with fail
          refine (known_any _ (HT.out.new HN.out)).mono ?_
          rintro e w4 ⟨rfl, hn⟩
          have HN := Lib.hid (HN.out.trans hn)
          clear hn
          go_wp2_with fail
          go_ret
          exact ⟨rfl, HN.out⟩
        | false =>
          obtain rfl := hq hf
          clear hp hq
          go_wp2_with fail
          refine (word_no f h0 h1 hf _).mono ?_
          rintro e w4 ⟨rfl, rfl⟩
          go_wp2_with fail
          refine (known_any _ (HT.out.new HN.out)).mono ?_
          rintro e w4 ⟨rfl, hn⟩
          have HN := Lib.hid (HN.out.trans hn)
          clear hn
          go_wp2_with fail
          go_ret
          exact ⟨rfl, HN.out⟩
    have hk' : k = 0 ∨ k = 1 ∨ k = 2 ∨ k = 3 ∨ k = 4 ∨ k = 5 ∨ k = 6 ∨ k = 7 := by omega
    obtain ⟨m, hm⟩ : ∃ m, m = k + 1 := ⟨_, rfl⟩
    have HM := Lib.hid hm
    obtain ⟨fb, hfb⟩ : ∃ fb, fd k s = fb := ⟨_, rfl⟩
    have HF := Lib.hid hfb
    rw [hfb]
    clear h8 hm hfb
    rcases hk' with rfl | rfl | rfl | rfl | rfl | rfl | rfl | rfl
    · obtain rfl : z = 0 := hz.symm
      have cA : wr.cell? ⟨b, 0, none⟩ = some (.int .u8 1) := HA.out.cell 0
      have cW : wr.cell? ⟨bw, 0, none⟩ = some (.string (wordS 0)) := HW.out.cell 0
      obtain ⟨wk, hwk⟩ : ∃ x, wordS 0 = x := ⟨_, rfl⟩
      have HK := Lib.hid hwk
      rw [hwk] at cW
      clear hwk
      cases fb
      all_goals
        go_wp2
        go_quiet ((first | (go_at_call 21; exact Calls.quiet_of_same ((byWord_yes 0 (by decide) 1 (by decide) wk HK.out _ (HTd.out.drewN _)).mono fun _ _ h => ⟨h.1, h.2.symm⟩)) | (go_at_call 22; exact Calls.quiet_of_same ((word_yes 0 (by decide) 1 (by decide) wk HK.out _ (HTd.out.drewN _)).mono fun _ _ h => ⟨h.1, h.2.symm⟩))))
        go_wp2
        go_roundw
        case rel => exact ⟨m, m, rfl, by have := HM.out; omega, by rw [HM.out]; rfl, by rw [HM.out, fd, HF.out, HK.out]; rfl, HN.out.drewN _, HA.out, HW.out⟩
        case measure => simp [intOf]
    · obtain rfl : z = 1 := hz.symm
      have cA : wr.cell? ⟨b, 1, none⟩ = some (.int .u8 2) := HA.out.cell 1
      have cW : wr.cell? ⟨bw, 1, none⟩ = some (.string (wordS 1)) := HW.out.cell 1
      obtain ⟨wk, hwk⟩ : ∃ x, wordS 1 = x := ⟨_, rfl⟩
      have HK := Lib.hid hwk
      rw [hwk] at cW
      clear hwk
      cases fb
      all_goals
        go_wp2
        go_quiet ((first | (go_at_call 21; exact Calls.quiet_of_same ((byWord_yes 1 (by decide) 2 (by decide) wk HK.out _ (HTd.out.drewN _)).mono fun _ _ h => ⟨h.1, h.2.symm⟩)) | (go_at_call 22; exact Calls.quiet_of_same ((word_yes 1 (by decide) 2 (by decide) wk HK.out _ (HTd.out.drewN _)).mono fun _ _ h => ⟨h.1, h.2.symm⟩))))
        go_wp2
        go_roundw
        case rel => exact ⟨m, m, rfl, by have := HM.out; omega, by rw [HM.out]; rfl, by rw [HM.out, fd, HF.out, HK.out]; rfl, HN.out.drewN _, HA.out, HW.out⟩
        case measure => simp [intOf]
    · obtain rfl : z = 2 := hz.symm
      have cA : wr.cell? ⟨b, 2, none⟩ = some (.int .u8 4) := HA.out.cell 2
      have cW : wr.cell? ⟨bw, 2, none⟩ = some (.string (wordS 2)) := HW.out.cell 2
      obtain ⟨wk, hwk⟩ : ∃ x, wordS 2 = x := ⟨_, rfl⟩
      have HK := Lib.hid hwk
      rw [hwk] at cW
      clear hwk
      cases fb
      all_goals
        go_wp2
        go_quiet ((first | (go_at_call 21; exact Calls.quiet_of_same ((byWord_yes 2 (by decide) 4 (by decide) wk HK.out _ (HTd.out.drewN _)).mono fun _ _ h => ⟨h.1, h.2.symm⟩)) | (go_at_call 22; exact Calls.quiet_of_same ((word_yes 2 (by decide) 4 (by decide) wk HK.out _ (HTd.out.drewN _)).mono fun _ _ h => ⟨h.1, h.2.symm⟩))))
        go_wp2
        go_roundw
        case rel => exact ⟨m, m, rfl, by have := HM.out; omega, by rw [HM.out]; rfl, by rw [HM.out, fd, HF.out, HK.out]; rfl, HN.out.drewN _, HA.out, HW.out⟩
        case measure => simp [intOf]
    · obtain rfl : z = 3 := hz.symm
      have cA : wr.cell? ⟨b, 3, none⟩ = some (.int .u8 8) := HA.out.cell 3
      have cW : wr.cell? ⟨bw, 3, none⟩ = some (.string (wordS 3)) := HW.out.cell 3
      obtain ⟨wk, hwk⟩ : ∃ x, wordS 3 = x := ⟨_, rfl⟩
      have HK := Lib.hid hwk
      rw [hwk] at cW
      clear hwk
      cases fb
      all_goals
        go_wp2
        go_quiet ((first | (go_at_call 21; exact Calls.quiet_of_same ((byWord_yes 3 (by decide) 8 (by decide) wk HK.out _ (HTd.out.drewN _)).mono fun _ _ h => ⟨h.1, h.2.symm⟩)) | (go_at_call 22; exact Calls.quiet_of_same ((word_yes 3 (by decide) 8 (by decide) wk HK.out _ (HTd.out.drewN _)).mono fun _ _ h => ⟨h.1, h.2.symm⟩))))
        go_wp2
        go_roundw
        case rel => exact ⟨m, m, rfl, by have := HM.out; omega, by rw [HM.out]; rfl, by rw [HM.out, fd, HF.out, HK.out]; rfl, HN.out.drewN _, HA.out, HW.out⟩
        case measure => simp [intOf]
    · obtain rfl : z = 4 := hz.symm
      have cA : wr.cell? ⟨b, 4, none⟩ = some (.int .u8 16) := HA.out.cell 4
      have cW : wr.cell? ⟨bw, 4, none⟩ = some (.string (wordS 4)) := HW.out.cell 4
      obtain ⟨wk, hwk⟩ : ∃ x, wordS 4 = x := ⟨_, rfl⟩
      have HK := Lib.hid hwk
      rw [hwk] at cW
      clear hwk
      cases fb
      all_goals
        go_wp2
        go_quiet ((first | (go_at_call 21; exact Calls.quiet_of_same ((byWord_yes 4 (by decide) 16 (by decide) wk HK.out _ (HTd.out.drewN _)).mono fun _ _ h => ⟨h.1, h.2.symm⟩)) | (go_at_call 22; exact Calls.quiet_of_same ((word_yes 4 (by decide) 16 (by decide) wk HK.out _ (HTd.out.drewN _)).mono fun _ _ h => ⟨h.1, h.2.symm⟩))))
        go_wp2
        go_roundw
        case rel => exact ⟨m, m, rfl, by have := HM.out; omega, by rw [HM.out]; rfl, by rw [HM.out, fd, HF.out, HK.out]; rfl, HN.out.drewN _, HA.out, HW.out⟩
        case measure => simp [intOf]
    · obtain rfl : z = 5 := hz.symm
      have cA : wr.cell? ⟨b, 5, none⟩ = some (.int .u8 32) := HA.out.cell 5
      have cW : wr.cell? ⟨bw, 5, none⟩ = some (.string (wordS 5)) := HW.out.cell 5
      obtain ⟨wk, hwk⟩ : ∃ x, wordS 5 = x := ⟨_, rfl⟩
      have HK := Lib.hid hwk
      rw [hwk] at cW
      clear hwk
      cases fb
      all_goals
        go_wp2
        go_quiet ((first | (go_at_call 21; exact Calls.quiet_of_same ((byWord_yes 5 (by decide) 32 (by decide) wk HK.out _ (HTd.out.drewN _)).mono fun _ _ h => ⟨h.1, h.2.symm⟩)) | (go_at_call 22; exact Calls.quiet_of_same ((word_yes 5 (by decide) 32 (by decide) wk HK.out _ (HTd.out.drewN _)).mono fun _ _ h => ⟨h.1, h.2.symm⟩))))
        go_wp2
        go_roundw
        case rel => exact ⟨m, m, rfl, by have := HM.out; omega, by rw [HM.out]; rfl, by rw [HM.out, fd, HF.out, HK.out]; rfl, HN.out.drewN _, HA.out, HW.out⟩
        case measure => simp [intOf]
    · obtain rfl : z = 6 := hz.symm
      have cA : wr.cell? ⟨b, 6, none⟩ = some (.int .u8 64) := HA.out.cell 6
      have cW : wr.cell? ⟨bw, 6, none⟩ = some (.string (wordS 6)) := HW.out.cell 6
      obtain ⟨wk, hwk⟩ : ∃ x, wordS 6 = x := ⟨_, rfl⟩
      have HK := Lib.hid hwk
      rw [hwk] at cW
      clear hwk
      cases fb
      all_goals
        go_wp2
        go_quiet ((first | (go_at_call 21; exact Calls.quiet_of_same ((byWord_yes 6 (by decide) 64 (by decide) wk HK.out _ (HTd.out.drewN _)).mono fun _ _ h => ⟨h.1, h.2.symm⟩)) | (go_at_call 22; exact Calls.quiet_of_same ((word_yes 6 (by decide) 64 (by decide) wk HK.out _ (HTd.out.drewN _)).mono fun _ _ h => ⟨h.1, h.2.symm⟩))))
        go_wp2
        go_roundw
        case rel => exact ⟨m, m, rfl, by have := HM.out; omega, by rw [HM.out]; rfl, by rw [HM.out, fd, HF.out, HK.out]; rfl, HN.out.drewN _, HA.out, HW.out⟩
        case measure => simp [intOf]
    · obtain rfl : z = 7 := hz.symm
      have cA : wr.cell? ⟨b, 7, none⟩ = some (.int .u8 128) := HA.out.cell 7
      have cW : wr.cell? ⟨bw, 7, none⟩ = some (.string (wordS 7)) := HW.out.cell 7
      obtain ⟨wk, hwk⟩ : ∃ x, wordS 7 = x := ⟨_, rfl⟩
      have HK := Lib.hid hwk
      rw [hwk] at cW
      clear hwk
      cases fb
      all_goals
        go_wp2
        go_quiet ((first | (go_at_call 21; exact Calls.quiet_of_same ((byWord_yes 7 (by decide) 128 (by decide) wk HK.out _ (HTd.out.drewN _)).mono fun _ _ h => ⟨h.1, h.2.symm⟩)) | (go_at_call 22; exact Calls.quiet_of_same ((word_yes 7 (by decide) 128 (by decide) wk HK.out _ (HTd.out.drewN _)).mono fun _ _ h => ⟨h.1, h.2.symm⟩))))
        go_wp2
        go_roundw
        case rel => exact ⟨m, m, rfl, by have := HM.out; omega, by rw [HM.out]; rfl, by rw [HM.out, fd, HF.out, HK.out]; rfl, HN.out.drewN _, HA.out, HW.out⟩
        case measure => simp [intOf]

theorem penNames_walk (a0 : Int) (s : ByteArray) (h : (Lit.int .u8 a0).wf = true) (hs : s.size ≤ maxLen) (w : World) (hT : Tab w) :
    Calls Tryd.prog 6 #[.int .u8 a0, .string s] w fun e w' => e = .returned (.bool true) ∧ Below w.heap.size w w' := by
  have hb : 0 ≤ a0 ∧ a0 ≤ 255 := by simp [Lit.wf, IntKind.min, IntKind.max, IntKind.bits, IntKind.signed] at h; omega
  exact (names_walk a0 hb.1 hb.2 s hs w hT).mono fun _ _ h => ⟨h.1, h.2.new_below⟩

end Go.Proofs.YtgmgojoklacdlaaDoor
