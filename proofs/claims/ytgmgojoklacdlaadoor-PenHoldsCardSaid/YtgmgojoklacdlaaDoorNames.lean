/-
  The words of the flags: what stands in the program's table, and what is asked of it.
-/
import Derived.Test.YtgmgojoklacdlaaDoorFlag
namespace Go.Proofs.YtgmgojoklacdlaaDoor
open Go.RowKit

def wordsL : List (List UInt8) := [[98, 111, 108, 100], [102, 97, 105, 110, 116], [105, 116, 97, 108, 105, 99], [117, 110, 100, 101, 114, 108, 105, 110, 101], [98, 108, 105, 110, 107], [105, 110, 118, 101, 114, 115, 101], [104, 105, 100, 100, 101, 110], [115, 116, 114, 117, 99, 107]]
def wordS (n : Nat) : ByteArray := ⟨(wordsL.getD n []).toArray⟩
def wordsA : Array Value := (wordsL.map fun l => Value.string ⟨l.toArray⟩).toArray

/-- The table stands in the program's variable. -/
structure Tab (w : World) : Prop where
  m : ∃ t f, w.heap[0]? = some (.cells wordsA t f)
theorem Tab.lt {w : World} (h : Tab w) : 0 < w.heap.size := by
  obtain ⟨t, f, h⟩ := h.m
  rcases Nat.lt_or_ge 0 w.heap.size with hlt | hge
  · exact hlt
  · rw [Array.getElem?_eq_none hge] at h; cases h
theorem Tab.new {w w' : World} (h : Tab w) (hf : New w w') : Tab w' := by
  have h0 := h.lt
  obtain ⟨t, f, hm⟩ := h.m
  exact ⟨t, f, (hf.block 0 h0 (fun h => h)).trans hm⟩
theorem wordsA_at : ∀ n, n < 8 → wordsA[n]? = some (.string (wordS n)) := by
  intro n hn
  have h : n = 0 ∨ n = 1 ∨ n = 2 ∨ n = 3 ∨ n = 4 ∨ n = 5 ∨ n = 6 ∨ n = 7 := by omega
  rcases h with rfl | rfl | rfl | rfl | rfl | rfl | rfl | rfl <;> rfl
theorem flagAt_bounds : ∀ n, n < 8 → 0 ≤ flagAt n ∧ flagAt n ≤ 255 := by decide
theorem flagAt_inj : ∀ m, m < 8 → ∀ n, n < 8 → flagAt m = flagAt n → m = n := by decide
theorem Tab.cell {w : World} (h : Tab w) {n : Nat} (hn : n < 8) : w.cell? ⟨0, n, none⟩ = some (.string (wordS n)) := by
  obtain ⟨t, f, hm⟩ := h.m
  rw [cell_of_row w 0 n wordsA t f hm, wordsA_at n hn]

theorem wordsL_inj : ∀ m, m < 8 → ∀ n, n < 8 → wordsL.getD m [] = wordsL.getD n [] → m = n := by decide
theorem wordS_inj : ∀ m, m < 8 → ∀ n, n < 8 → wordS m = wordS n → m = n := by
  intro m hm n hn h
  refine wordsL_inj m hm n hn ?_
  unfold wordS at h
  injection h with h
  simpa using h
theorem ret_str2 {k : IntKind} {a b : ByteArray} {x y : Int} (h : a = b) (h2 : x = y) : Ending.returned (.tuple #[.string a, .int k x]) = .returned (.tuple #[.string b, .int k y]) := by rw [h, h2]

set_option maxHeartbeats 400000 in
theorem Word_yes (n : Nat) (hn : n < 8) (f : Int) (hf : f = flagAt n) (w : World) (hT : Tab w) :
    Calls Tryd.prog 32 #[.int .u8 f] w fun e w' => e = .returned (.tuple #[.string (wordS n), .int .i64 0]) ∧ w = w' := by
  have hF : flagB f = true := by rw [hf]; exact flagAt_flag n hn
  have hb : 0 ≤ f ∧ f ≤ 255 := by rw [hf]; exact flagAt_bounds n hn
  have d := hT.cell hn
  have HF := Lib.hid hf
  clear hf hT
  have c1 := fun w => isFlag_any f hb.1 hb.2 w
  have c2 := fun w => TrailingZeros8_any f hb.1 hb.2 hF w
  rw [hF] at c1
  clear hF
  go_enter Tryd.func32, Tryd.ntmps32
  go_wp2_with fail
  refine (c1 _).mono ?_
  rintro e w1 ⟨rfl, rfl⟩
  go_wp2_with fail
  refine (c2 _).mono ?_
  rintro e w1 ⟨⟨m, hm, he, rfl⟩, rfl⟩
  have hmn : m = n := flagAt_inj m hm n hn (he.symm.trans HF.out)
  subst hmn
  clear he
  go_wp2
  go_ret2
  exact ⟨rfl, rfl⟩

set_option maxHeartbeats 400000 in
theorem Word_no (f : Int) (h0 : 0 ≤ f) (h1 : f ≤ 255) (hf : flagB f = false) (w : World) :
    Calls Tryd.prog 32 #[.int .u8 f] w fun e w' => e = .returned (.tuple #[.string ByteArray.empty, .int .i64 2]) ∧ w = w' := by
  have c1 := fun w => isFlag_any f h0 h1 w
  rw [hf] at c1
  go_enter Tryd.func32, Tryd.ntmps32
  go_wp2_with fail
  refine (c1 _).mono ?_
  rintro e w1 ⟨rfl, rfl⟩
  go_wp2_with fail
  go_ret2
  exact ⟨rfl, rfl⟩

/-- The numbers of the flags, in order, but for those from k on. -/
def flagsV (k : Nat) : Array Value := ((List.range 8).map fun j => Value.int .u8 (if j < k then flagAt j else 0)).toArray

theorem flagsV_at : ∀ k, k < 8 → (flagsV k)[k]? = some (.int .u8 0) := by
  intro n hn
  have h : n = 0 ∨ n = 1 ∨ n = 2 ∨ n = 3 ∨ n = 4 ∨ n = 5 ∨ n = 6 ∨ n = 7 := by omega
  rcases h with rfl | rfl | rfl | rfl | rfl | rfl | rfl | rfl <;> rfl
theorem flagsV_set : ∀ k, k < 8 → (flagsV k).setIfInBounds k (.int .u8 (flagAt k)) = flagsV (k + 1) := by
  intro n hn
  have h : n = 0 ∨ n = 1 ∨ n = 2 ∨ n = 3 ∨ n = 4 ∨ n = 5 ∨ n = 6 ∨ n = 7 := by omega
  rcases h with rfl | rfl | rfl | rfl | rfl | rfl | rfl | rfl <;> rfl
theorem flagsV_step {wr : World} {g k m : Nat} {t : TypeId} {v : Int} (hm : m = k + 1) (hk : k < 8) (hv : v = flagAt k) (B : Blk wr g t (flagsV k)) : Blk (wr.setCell ⟨g, k, none⟩ (.int .u8 v)) g t (flagsV m) := by
  have := B.set k (.int .u8 v)
  rwa [hv, flagsV_set k hk, ← hm, ← hv] at this

set_option maxHeartbeats 1600000 in
theorem All_any (w : World) :
    Calls Tryd.prog 19 #[] w fun e w' => ∃ b, e = .returned (.slice (some ⟨b, 0, none⟩) 8 8) ∧ Blk w' b 25 (flagsV 8) ∧ w.heap.size ≤ b ∧ New w w' := by
  have hmk : ∀ w, (Instr.makeSlice 42 (.int .i64 8) (.int .i64 8)).run Tryd.prog w = .ok (.slice (some ⟨w.heap.size, 0, none⟩) 8 8) (w.alloc (.cells #[.int .u8 0, .int .u8 0, .int .u8 0, .int .u8 0, .int .u8 0, .int .u8 0, .int .u8 0, .int .u8 0] 25)) := fun _ => by kernel_rfl
  go_enter Tryd.func19, Tryd.ntmps19
  go_wp2
  go_loopw [2, 6] (fun _ i wr => ∃ k : Nat, k ≤ 8 ∧ i = .int .i64 k ∧ New w wr ∧ Blk wr w.heap.size 25 (flagsV k)) (fun _ i _ => 8 - (intOf i).toNat)
  case atStart => exact ⟨0, by omega, rfl, New.alloc _, Blk.new w _ _⟩
  case round =>
    obtain ⟨k, hk, rfl, hnew, hblk⟩ := hrel
    have HN := Lib.hid hnew
    have HB := Lib.hid hblk
    clear hnew hblk
    generalize hg : w.heap.size = g at *
    by_cases h8 : k = 8
    · subst h8
      go_wp2
      go_ret
      exact ⟨_, rfl, HB.out, Nat.le_of_eq hg, HN.out⟩
    · have hk7 : k < 8 := by omega
      have hk' : k = 0 ∨ k = 1 ∨ k = 2 ∨ k = 3 ∨ k = 4 ∨ k = 5 ∨ k = 6 ∨ k = 7 := by omega
      have c0 : wr.cell? ⟨g, k, none⟩ = some (.int .u8 0) := (HB.out.cell k).trans (flagsV_at k hk7)
      have f0 := HB.out.frozen k
      obtain ⟨m, hm⟩ : ∃ m, m = k + 1 := ⟨_, rfl⟩
      have HM := Lib.hid hm
      clear h8 hm
      rcases hk' with rfl | rfl | rfl | rfl | rfl | rfl | rfl | rfl
      all_goals
        go_wp2
        go_roundw
        case rel => exact ⟨m, by have := HM.out; omega, by rw [HM.out]; rfl, HN.out.setCell (.inr (Nat.le_of_eq hg)) _, flagsV_step HM.out (by decide) (by decide) HB.out⟩
        case measure => simp [intOf]

set_option maxHeartbeats 1600000 in
theorem RWords_any (w : World) :
    Calls Tryd.prog 20 #[] w fun e w' => ∃ b t, e = .returned (.slice (some ⟨b, 0, none⟩) 8 8) ∧ Blk w' b t wordsA ∧ New w w' := by
  go_enter Tryd.func20, Tryd.ntmps20
  go_wp2
  go_ret
  exact ⟨_, _, rfl, Blk.new w _ _, New.alloc _⟩

theorem bytes_inj {a b : ByteArray} (h : a.toList = b.toList) : a = b := by
  rw [ByteArray.toList_eq, ByteArray.toList_eq] at h
  obtain ⟨⟨x⟩⟩ := a
  obtain ⟨⟨y⟩⟩ := b
  simpa using h
theorem index0 (w : World) : (Instr.index 68 (.agg #[.string (wordS 0), .string (wordS 1), .string (wordS 2), .string (wordS 3), .string (wordS 4), .string (wordS 5), .string (wordS 6), .string (wordS 7)]) (.int .i64 0)).run Tryd.prog w = .ok (.string (wordS 0)) w := by kernel_rfl
theorem index1 (w : World) : (Instr.index 68 (.agg #[.string (wordS 0), .string (wordS 1), .string (wordS 2), .string (wordS 3), .string (wordS 4), .string (wordS 5), .string (wordS 6), .string (wordS 7)]) (.int .i64 1)).run Tryd.prog w = .ok (.string (wordS 1)) w := by kernel_rfl
theorem index2 (w : World) : (Instr.index 68 (.agg #[.string (wordS 0), .string (wordS 1), .string (wordS 2), .string (wordS 3), .string (wordS 4), .string (wordS 5), .string (wordS 6), .string (wordS 7)]) (.int .i64 2)).run Tryd.prog w = .ok (.string (wordS 2)) w := by kernel_rfl
theorem index3 (w : World) : (Instr.index 68 (.agg #[.string (wordS 0), .string (wordS 1), .string (wordS 2), .string (wordS 3), .string (wordS 4), .string (wordS 5), .string (wordS 6), .string (wordS 7)]) (.int .i64 3)).run Tryd.prog w = .ok (.string (wordS 3)) w := by kernel_rfl
theorem index4 (w : World) : (Instr.index 68 (.agg #[.string (wordS 0), .string (wordS 1), .string (wordS 2), .string (wordS 3), .string (wordS 4), .string (wordS 5), .string (wordS 6), .string (wordS 7)]) (.int .i64 4)).run Tryd.prog w = .ok (.string (wordS 4)) w := by kernel_rfl
theorem index5 (w : World) : (Instr.index 68 (.agg #[.string (wordS 0), .string (wordS 1), .string (wordS 2), .string (wordS 3), .string (wordS 4), .string (wordS 5), .string (wordS 6), .string (wordS 7)]) (.int .i64 5)).run Tryd.prog w = .ok (.string (wordS 5)) w := by kernel_rfl
theorem index6 (w : World) : (Instr.index 68 (.agg #[.string (wordS 0), .string (wordS 1), .string (wordS 2), .string (wordS 3), .string (wordS 4), .string (wordS 5), .string (wordS 6), .string (wordS 7)]) (.int .i64 6)).run Tryd.prog w = .ok (.string (wordS 6)) w := by kernel_rfl
theorem index7 (w : World) : (Instr.index 68 (.agg #[.string (wordS 0), .string (wordS 1), .string (wordS 2), .string (wordS 3), .string (wordS 4), .string (wordS 5), .string (wordS 6), .string (wordS 7)]) (.int .i64 7)).run Tryd.prog w = .ok (.string (wordS 7)) w := by kernel_rfl
theorem index_at : ∀ k : Nat, k < 8 → ∀ w : World, (Instr.index 68 (.agg #[.string (wordS 0), .string (wordS 1), .string (wordS 2), .string (wordS 3), .string (wordS 4), .string (wordS 5), .string (wordS 6), .string (wordS 7)]) (.int .i64 k)).run Tryd.prog w = .ok (.string (wordS k)) w := by
  intro n hn w
  have h : n = 0 ∨ n = 1 ∨ n = 2 ∨ n = 3 ∨ n = 4 ∨ n = 5 ∨ n = 6 ∨ n = 7 := by omega
  rcases h with rfl | rfl | rfl | rfl | rfl | rfl | rfl | rfl
  · exact index0 w
  · exact index1 w
  · exact index2 w
  · exact index3 w
  · exact index4 w
  · exact index5 w
  · exact index6 w
  · exact index7 w

set_option maxHeartbeats 1600000 in
theorem ByWord_any (s : ByteArray) (n : Nat) (hn : n ≤ 8) (hlt : ∀ j, j < n → wordS j ≠ s) (heq : n < 8 → wordS n = s) (w : World) (hT : Tab w) :
    Calls Tryd.prog 31 #[.string s] w fun e w' => e = .returned (.tuple #[.int .u8 (if n < 8 then flagAt n else 0), .int .i64 (if n < 8 then 0 else 6)]) ∧ w = w' := by
  have H := Lib.hid hT
  clear hT
  go_enter Tryd.func31, Tryd.ntmps31
  have c0 := H.out.cell (n := 0) (by omega)
  have c1 := H.out.cell (n := 1) (by omega)
  have c2 := H.out.cell (n := 2) (by omega)
  have c3 := H.out.cell (n := 3) (by omega)
  have c4 := H.out.cell (n := 4) (by omega)
  have c5 := H.out.cell (n := 5) (by omega)
  have c6 := H.out.cell (n := 6) (by omega)
  have c7 := H.out.cell (n := 7) (by omega)
  go_wp2
  go_loop [4, 5, 7] (fun _ _ i => ∃ k : Nat, k ≤ n ∧ i = .int .i64 k) (fun _ _ i => 8 - (intOf i).toNat)
  case atStart => exact ⟨0, by omega, rfl⟩
  case round =>
    obtain ⟨k, hk, rfl⟩ := hrel
    by_cases h8 : k = 8
    · obtain rfl : n = 8 := by omega
      subst h8
      go_wp2
      go_ret2
      exact ⟨rfl, rfl⟩
    · have hk7 : k < 8 := by omega
      have hix := index_at k hk7
      clear c0 c1 c2 c3 c4 c5 c6 c7
      by_cases hkn : k = n
      · subst hkn
        have he := heq hk7
        have je : ((wordS k).toList == s.toList) = true := by rw [he]; simp
        clear heq hlt h8 hix
        have i0 := index0; have i1 := index1; have i2 := index2; have i3 := index3; have i4 := index4; have i5 := index5; have i6 := index6; have i7 := index7
        have hk' : k = 0 ∨ k = 1 ∨ k = 2 ∨ k = 3 ∨ k = 4 ∨ k = 5 ∨ k = 6 ∨ k = 7 := by omega
        rcases hk' with rfl | rfl | rfl | rfl | rfl | rfl | rfl | rfl
        all_goals
          clear he
          go_wp2
          go_ret2
          exact ⟨rfl, rfl⟩
      · have hlt' : k < n := by omega
        have he := hlt k hlt'
        have je : ((wordS k).toList == s.toList) = false := by
          simpa using fun h => he (bytes_inj h)
        clear heq hlt h8 he
        go_wp2
        go_round
        case rel => exact ⟨k + 1, by omega, by go_num⟩
        case measure => simp [intOf]; omega

end Go.Proofs.YtgmgojoklacdlaaDoor
