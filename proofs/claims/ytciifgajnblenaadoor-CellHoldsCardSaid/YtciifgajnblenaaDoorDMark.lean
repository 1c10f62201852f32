/-
  Package cell's Mark.
-/
import Derived.Test.YtciifgajnblenaaDoorDValid
import Derived.Test.YtciifgajnblenaaDoorDIndex
import Derived.Deep.DeepCutAuto
namespace Go.Proofs.YtciifgajnblenaaDoor
open Go.RowKit

/-- What Mark answers. -/
abbrev CMarkSaid (c : Ce) (m : Int) (x : Ce) (e : Int) (w : World) : Prop := Calls Tryd.prog 31 #[c.v, .int .i32 m] w fun e' w' => e' = .returned (.tuple #[.agg x.cs, .int .i64 e]) ∧ New w w'
theorem idx_nM (c : Ce) : idxM c = if nM c = 3 then -1 else (nM c : Int) := by
  unfold idxM nM
  by_cases a : c.m0 = 0 <;> by_cases b : c.m1 = 0 <;> by_cases d : c.m2 = 0 <;> simp [a, b, d]

set_option maxHeartbeats 3200000 in
theorem cm_bad (c : Ce) (m : Int) (hv : cellB c = false) (w : World) (hT : Tab w) : CMarkSaid c m zeroCe 2 w := by
  have C1 := fun w hT => CValidK c false hv w hT
  have HT := Lib.hid hT
  clear hT hv
  go_enter Tryd.func31, Tryd.ntmps31
  go_wp2_with fail
  have N0 : New w ((w.alloc (.cells c.cs 30)).alloc (.cells zeroCe.cs 30)) := (New.alloc _).trans (New.alloc _)
  have HN := Lib.hid N0
  have HP := Lib.hid ((Blk.new w 30 c.cs).alloc (.cells zeroCe.cs 30))
  have HZ : Hid (Blk ((w.alloc (.cells c.cs 30)).alloc (.cells zeroCe.cs 30)) (w.heap.size + 1) 30 zeroCe.cs) := Lib.hid (by
    have := Blk.new (w.alloc (.cells c.cs 30)) 30 zeroCe.cs
    simpa using this)
  clear N0
  generalize (w.alloc (.cells c.cs 30)).alloc (.cells zeroCe.cs 30) = W at *
  obtain ⟨g, hg⟩ : ∃ g, w.heap.size = g := ⟨_, rfl⟩
  have HG : Hid (w.heap.size ≤ g) := Lib.hid (Nat.le_of_eq hg)
  rw [hg] at HP HZ ⊢
  clear hg
  refine (C1 _ (HT.out.new HN.out)).mono ?_
  rintro e w1 ⟨rfl, hn⟩
  have HN := Lib.hid (HN.out.trans hn)
  have HP := Lib.hid (HP.out.fr hn (fun h => h))
  have HZ := Lib.hid (HZ.out.fr hn (fun h => h))
  clear hn
  go_wp2_with (refine stC rfl _ _ rfl (g + 1) zeroCe zeroCe rfl rfl HZ.out ?_)
  intro w9 hz hf _
  have HZ := Lib.hid hz
  have HN := Lib.hid (new_far HN.out hf (by have := HG.out; omega))
  clear hz hf
  go_wp2_with fail
  exact ret_ce rfl rfl rfl HZ.out rfl ⟨rfl, HN.out⟩

set_option maxHeartbeats 3200000 in
theorem cm_not (c : Ce) (m : Int) (hv : cellB c = true) (hm : ofI m ≠ 0) (w : World) (hT : Tab w) : CMarkSaid c m zeroCe 2 w := by
  have C1 := fun w hT => CValidK c true hv w hT
  obtain ⟨q, hq⟩ : ∃ q, ofI m = q := ⟨_, rfl⟩
  have C2 := fun w hT => OfK m q hq w hT
  have jm : (q != 0) = true := by rw [← hq]; simpa using hm
  have HT := Lib.hid hT
  clear hT hv hm hq
  go_enter Tryd.func31, Tryd.ntmps31
  go_wp2_with fail
  have N0 : New w ((w.alloc (.cells c.cs 30)).alloc (.cells zeroCe.cs 30)) := (New.alloc _).trans (New.alloc _)
  have HN := Lib.hid N0
  have HP := Lib.hid ((Blk.new w 30 c.cs).alloc (.cells zeroCe.cs 30))
  have HZ : Hid (Blk ((w.alloc (.cells c.cs 30)).alloc (.cells zeroCe.cs 30)) (w.heap.size + 1) 30 zeroCe.cs) := Lib.hid (by
    have := Blk.new (w.alloc (.cells c.cs 30)) 30 zeroCe.cs
    simpa using this)
  clear N0
  generalize (w.alloc (.cells c.cs 30)).alloc (.cells zeroCe.cs 30) = W at *
  obtain ⟨g, hg⟩ : ∃ g, w.heap.size = g := ⟨_, rfl⟩
  have HG : Hid (w.heap.size ≤ g) := Lib.hid (Nat.le_of_eq hg)
  rw [hg] at HP HZ ⊢
  clear hg
  refine (C1 _ (HT.out.new HN.out)).mono ?_
  rintro e w1 ⟨rfl, hn⟩
  have HN := Lib.hid (HN.out.trans hn)
  have HP := Lib.hid (HP.out.fr hn (fun h => h))
  have HZ := Lib.hid (HZ.out.fr hn (fun h => h))
  clear hn
  obtain ⟨d0, d1, d2, d3, d4, d5, d6, d7, d8, d9, d10, d11, d12, d13, d14, d15⟩ := HP.out.sixteen
  go_wp2_with fail
  refine (C2 _ (HT.out.new HN.out)).mono ?_
  rintro e w2 ⟨rfl, hn⟩
  have HN := Lib.hid (HN.out.trans hn)
  have HP := Lib.hid (HP.out.fr hn (fun h => h))
  have HZ := Lib.hid (HZ.out.fr hn (fun h => h))
  clear hn d0 d1 d2 d3 d4 d5 d6 d7 d8 d9 d10 d11 d12 d13 d14 d15
  go_wp2_with (refine stC rfl _ _ rfl (g + 1) zeroCe zeroCe rfl rfl HZ.out ?_)
  intro w9 hz hf _
  have HZ := Lib.hid hz
  have HN := Lib.hid (new_far HN.out hf (by have := HG.out; omega))
  clear hz hf
  go_wp2_with fail
  exact ret_ce rfl rfl rfl HZ.out rfl ⟨rfl, HN.out⟩

set_option maxHeartbeats 3200000 in
theorem cm_state (c : Ce) (m : Int) (hv : cellB c = true) (hm : ofI m = 0) (hr : c.r = 0) (w : World) (hT : Tab w) : CMarkSaid c m zeroCe 8 w := by
  have C1 := fun w hT => CValidK c true hv w hT
  have C2 := fun w hT => OfK m 0 hm w hT
  have jr : (c.r != 0) = false := by simpa using hr
  have C3 := fun w => WrittenK c false jr w
  clear jr
  have HT := Lib.hid hT
  clear hT hv hm hr
  go_enter Tryd.func31, Tryd.ntmps31
  go_wp2_with fail
  have N0 : New w ((w.alloc (.cells c.cs 30)).alloc (.cells zeroCe.cs 30)) := (New.alloc _).trans (New.alloc _)
  have HN := Lib.hid N0
  have HP := Lib.hid ((Blk.new w 30 c.cs).alloc (.cells zeroCe.cs 30))
  have HZ : Hid (Blk ((w.alloc (.cells c.cs 30)).alloc (.cells zeroCe.cs 30)) (w.heap.size + 1) 30 zeroCe.cs) := Lib.hid (by
    have := Blk.new (w.alloc (.cells c.cs 30)) 30 zeroCe.cs
    simpa using this)
  clear N0
  generalize (w.alloc (.cells c.cs 30)).alloc (.cells zeroCe.cs 30) = W at *
  obtain ⟨g, hg⟩ : ∃ g, w.heap.size = g := ⟨_, rfl⟩
  have HG : Hid (w.heap.size ≤ g) := Lib.hid (Nat.le_of_eq hg)
  rw [hg] at HP HZ ⊢
  clear hg
  refine (C1 _ (HT.out.new HN.out)).mono ?_
  rintro e w1 ⟨rfl, hn⟩
  have HN := Lib.hid (HN.out.trans hn)
  have HP := Lib.hid (HP.out.fr hn (fun h => h))
  have HZ := Lib.hid (HZ.out.fr hn (fun h => h))
  clear hn
  obtain ⟨d0, d1, d2, d3, d4, d5, d6, d7, d8, d9, d10, d11, d12, d13, d14, d15⟩ := HP.out.sixteen
  go_wp2_with fail
  refine (C2 _ (HT.out.new HN.out)).mono ?_
  rintro e w2 ⟨rfl, hn⟩
  have HN := Lib.hid (HN.out.trans hn)
  have HP := Lib.hid (HP.out.fr hn (fun h => h))
  have HZ := Lib.hid (HZ.out.fr hn (fun h => h))
  clear hn d0 d1 d2 d3 d4 d5 d6 d7 d8 d9 d10 d11 d12 d13 d14 d15
  obtain ⟨d0, d1, d2, d3, d4, d5, d6, d7, d8, d9, d10, d11, d12, d13, d14, d15⟩ := HP.out.sixteen
  go_wp2_with fail
  refine (C3 _).mono ?_
  rintro e w3 ⟨rfl, hn⟩
  have HN := Lib.hid (HN.out.trans hn)
  have HP := Lib.hid (HP.out.fr hn (fun h => h))
  have HZ := Lib.hid (HZ.out.fr hn (fun h => h))
  clear hn d0 d1 d2 d3 d4 d5 d6 d7 d8 d9 d10 d11 d12 d13 d14 d15
  go_wp2_with (refine stC rfl _ _ rfl (g + 1) zeroCe zeroCe rfl rfl HZ.out ?_)
  intro w9 hz hf _
  have HZ := Lib.hid hz
  have HN := Lib.hid (new_far HN.out hf (by have := HG.out; omega))
  clear hz hf
  go_wp2_with fail
  exact ret_ce rfl rfl rfl HZ.out rfl ⟨rfl, HN.out⟩

set_option maxHeartbeats 3200000 in
theorem cm_full (c : Ce) (m : Int) (hv : cellB c = true) (hm : ofI m = 0) (hr : c.r ≠ 0) (hk : nM c = 3) (w : World) (hT : Tab w) : CMarkSaid c m zeroCe 7 w := by
  have C1 := fun w hT => CValidK c true hv w hT
  have C2 := fun w hT => OfK m 0 hm w hT
  have jr : (c.r != 0) = true := by simpa using hr
  have C3 := fun w => WrittenK c true jr w
  clear jr
  have C4 : ∀ (g : Nat) (w : World), Blk w g 30 c.cs → Calls Tryd.prog 46 #[.slice (some ⟨g, 1, none⟩) 3 3, .int .i32 0] w fun e w' => e = .returned (.int .i64 (-1)) ∧ New w w' := fun g w hB => by
    have := IndexK c g w hB
    rwa [idx_nM, hk] at this
  have HT := Lib.hid hT
  clear hT hv hm hr hk
  go_enter Tryd.func31, Tryd.ntmps31
  go_wp2_with fail
  have N0 : New w ((w.alloc (.cells c.cs 30)).alloc (.cells zeroCe.cs 30)) := (New.alloc _).trans (New.alloc _)
  have HN := Lib.hid N0
  have HP := Lib.hid ((Blk.new w 30 c.cs).alloc (.cells zeroCe.cs 30))
  have HZ : Hid (Blk ((w.alloc (.cells c.cs 30)).alloc (.cells zeroCe.cs 30)) (w.heap.size + 1) 30 zeroCe.cs) := Lib.hid (by
    have := Blk.new (w.alloc (.cells c.cs 30)) 30 zeroCe.cs
    simpa using this)
  clear N0
  generalize (w.alloc (.cells c.cs 30)).alloc (.cells zeroCe.cs 30) = W at *
  obtain ⟨g, hg⟩ : ∃ g, w.heap.size = g := ⟨_, rfl⟩
  have HG : Hid (w.heap.size ≤ g) := Lib.hid (Nat.le_of_eq hg)
  rw [hg] at HP HZ ⊢
  clear hg
  refine (C1 _ (HT.out.new HN.out)).mono ?_
  rintro e w1 ⟨rfl, hn⟩
  have HN := Lib.hid (HN.out.trans hn)
  have HP := Lib.hid (HP.out.fr hn (fun h => h))
  have HZ := Lib.hid (HZ.out.fr hn (fun h => h))
  clear hn
  obtain ⟨d0, d1, d2, d3, d4, d5, d6, d7, d8, d9, d10, d11, d12, d13, d14, d15⟩ := HP.out.sixteen
  go_wp2_with fail
  refine (C2 _ (HT.out.new HN.out)).mono ?_
  rintro e w2 ⟨rfl, hn⟩
  have HN := Lib.hid (HN.out.trans hn)
  have HP := Lib.hid (HP.out.fr hn (fun h => h))
  have HZ := Lib.hid (HZ.out.fr hn (fun h => h))
  clear hn d0 d1 d2 d3 d4 d5 d6 d7 d8 d9 d10 d11 d12 d13 d14 d15
  obtain ⟨d0, d1, d2, d3, d4, d5, d6, d7, d8, d9, d10, d11, d12, d13, d14, d15⟩ := HP.out.sixteen
  go_wp2_with fail
  refine (C3 _).mono ?_
  rintro e w3 ⟨rfl, hn⟩
  have HN := Lib.hid (HN.out.trans hn)
  have HP := Lib.hid (HP.out.fr hn (fun h => h))
  have HZ := Lib.hid (HZ.out.fr hn (fun h => h))
  clear hn d0 d1 d2 d3 d4 d5 d6 d7 d8 d9 d10 d11 d12 d13 d14 d15
  obtain ⟨d0, d1, d2, d3, d4, d5, d6, d7, d8, d9, d10, d11, d12, d13, d14, d15⟩ := HP.out.sixteen
  go_wp2_with fail
  refine (C4 g _ HP.out).mono ?_
  rintro e w4 ⟨rfl, hn⟩
  have HN := Lib.hid (HN.out.trans hn)
  have HP := Lib.hid (HP.out.fr hn (fun h => h))
  have HZ := Lib.hid (HZ.out.fr hn (fun h => h))
  clear hn d0 d1 d2 d3 d4 d5 d6 d7 d8 d9 d10 d11 d12 d13 d14 d15
  go_wp2_with (refine stC rfl _ _ rfl (g + 1) zeroCe zeroCe rfl rfl HZ.out ?_)
  intro w9 hz hf _
  have HZ := Lib.hid hz
  have HN := Lib.hid (new_far HN.out hf (by have := HG.out; omega))
  clear hz hf
  go_wp2_with fail
  exact ret_ce rfl rfl rfl HZ.out rfl ⟨rfl, HN.out⟩

set_option maxHeartbeats 3200000 in
theorem cm_0 (c : Ce) (m : Int) (hv : cellB c = true) (hm : ofI m = 0) (hr : c.r ≠ 0) (hk : nM c = 0) (w : World) (hT : Tab w) : CMarkSaid c m { c with m0 := m } 0 w := by
  have C1 := fun w hT => CValidK c true hv w hT
  have C2 := fun w hT => OfK m 0 hm w hT
  have jr : (c.r != 0) = true := by simpa using hr
  have C3 := fun w => WrittenK c true jr w
  clear jr
  have C4 : ∀ (g : Nat) (w : World), Blk w g 30 c.cs → Calls Tryd.prog 46 #[.slice (some ⟨g, 1, none⟩) 3 3, .int .i32 0] w fun e w' => e = .returned (.int .i64 (0)) ∧ New w w' := fun g w hB => by
    have := IndexK c g w hB
    rwa [idx_nM, hk] at this
  have HT := Lib.hid hT
  clear hT hv hm hr hk
  go_enter Tryd.func31, Tryd.ntmps31
  go_wp2_with fail
  have N0 : New w ((w.alloc (.cells c.cs 30)).alloc (.cells zeroCe.cs 30)) := (New.alloc _).trans (New.alloc _)
  have HN := Lib.hid N0
  have HP := Lib.hid ((Blk.new w 30 c.cs).alloc (.cells zeroCe.cs 30))
  have HZ : Hid (Blk ((w.alloc (.cells c.cs 30)).alloc (.cells zeroCe.cs 30)) (w.heap.size + 1) 30 zeroCe.cs) := Lib.hid (by
    have := Blk.new (w.alloc (.cells c.cs 30)) 30 zeroCe.cs
    simpa using this)
  clear N0
  generalize (w.alloc (.cells c.cs 30)).alloc (.cells zeroCe.cs 30) = W at *
  obtain ⟨g, hg⟩ : ∃ g, w.heap.size = g := ⟨_, rfl⟩
  have HG : Hid (w.heap.size ≤ g) := Lib.hid (Nat.le_of_eq hg)
  rw [hg] at HP HZ ⊢
  clear hg
  refine (C1 _ (HT.out.new HN.out)).mono ?_
  rintro e w1 ⟨rfl, hn⟩
  have HN := Lib.hid (HN.out.trans hn)
  have HP := Lib.hid (HP.out.fr hn (fun h => h))
  have HZ := Lib.hid (HZ.out.fr hn (fun h => h))
  clear hn
  obtain ⟨d0, d1, d2, d3, d4, d5, d6, d7, d8, d9, d10, d11, d12, d13, d14, d15⟩ := HP.out.sixteen
  go_wp2_with fail
  refine (C2 _ (HT.out.new HN.out)).mono ?_
  rintro e w2 ⟨rfl, hn⟩
  have HN := Lib.hid (HN.out.trans hn)
  have HP := Lib.hid (HP.out.fr hn (fun h => h))
  have HZ := Lib.hid (HZ.out.fr hn (fun h => h))
  clear hn d0 d1 d2 d3 d4 d5 d6 d7 d8 d9 d10 d11 d12 d13 d14 d15
  obtain ⟨d0, d1, d2, d3, d4, d5, d6, d7, d8, d9, d10, d11, d12, d13, d14, d15⟩ := HP.out.sixteen
  go_wp2_with fail
  refine (C3 _).mono ?_
  rintro e w3 ⟨rfl, hn⟩
  have HN := Lib.hid (HN.out.trans hn)
  have HP := Lib.hid (HP.out.fr hn (fun h => h))
  have HZ := Lib.hid (HZ.out.fr hn (fun h => h))
  clear hn d0 d1 d2 d3 d4 d5 d6 d7 d8 d9 d10 d11 d12 d13 d14 d15
  obtain ⟨d0, d1, d2, d3, d4, d5, d6, d7, d8, d9, d10, d11, d12, d13, d14, d15⟩ := HP.out.sixteen
  go_wp2_with fail
  refine (C4 g _ HP.out).mono ?_
  rintro e w4 ⟨rfl, hn⟩
  have HN := Lib.hid (HN.out.trans hn)
  have HP := Lib.hid (HP.out.fr hn (fun h => h))
  have HZ := Lib.hid (HZ.out.fr hn (fun h => h))
  clear hn d0 d1 d2 d3 d4 d5 d6 d7 d8 d9 d10 d11 d12 d13 d14 d15
  obtain ⟨d0, d1, d2, d3, d4, d5, d6, d7, d8, d9, d10, d11, d12, d13, d14, d15⟩ := HP.out.sixteen
  have fp := HP.out.free
  go_upto_region 9 with fail
  clear d0 d1 d2 d3 d4 d5 d6 d7 d8 d9 d10 d11 d12 d13 d14 d15 fp
  have HP : Hid (Blk (w4.setCell ⟨g, 1, none⟩ (.int .i32 m)) g 30 (Ce.cs { c with m0 := m })) := Lib.hid (HP.out.set 1 _)
  have HZ := Lib.hid (HZ.out.far (p := ⟨g, 1, none⟩) (by simp) (.int .i32 m))
  have HN := Lib.hid (HN.out.setCell (p := ⟨g, 1, none⟩) (.inr HG.out) (.int .i32 m))
  generalize w4.setCell ⟨g, 1, none⟩ (.int .i32 m) = w5 at *
  obtain ⟨d0, d1, d2, d3, d4, d5, d6, d7, d8, d9, d10, d11, d12, d13, d14, d15⟩ := HP.out.sixteen
  go_wp2_with (refine stC rfl _ _ rfl (g + 1) zeroCe { c with m0 := m } rfl rfl HZ.out ?_)
  intro w9 hz hf _
  have HZ := Lib.hid hz
  have HN := Lib.hid (new_far HN.out hf (by have := HG.out; omega))
  clear hz hf
  go_wp2_with fail
  exact ret_ce rfl rfl rfl HZ.out rfl ⟨rfl, HN.out⟩

set_option maxHeartbeats 3200000 in
theorem cm_1 (c : Ce) (m : Int) (hv : cellB c = true) (hm : ofI m = 0) (hr : c.r ≠ 0) (hk : nM c = 1) (w : World) (hT : Tab w) : CMarkSaid c m { c with m1 := m } 0 w := by
  have C1 := fun w hT => CValidK c true hv w hT
  have C2 := fun w hT => OfK m 0 hm w hT
  have jr : (c.r != 0) = true := by simpa using hr
  have C3 := fun w => WrittenK c true jr w
  clear jr
  have C4 : ∀ (g : Nat) (w : World), Blk w g 30 c.cs → Calls Tryd.prog 46 #[.slice (some ⟨g, 1, none⟩) 3 3, .int .i32 0] w fun e w' => e = .returned (.int .i64 (1)) ∧ New w w' := fun g w hB => by
    have := IndexK c g w hB
    rwa [idx_nM, hk] at this
  have HT := Lib.hid hT
  clear hT hv hm hr hk
  go_enter Tryd.func31, Tryd.ntmps31
  go_wp2_with fail
  have N0 : New w ((w.alloc (.cells c.cs 30)).alloc (.cells zeroCe.cs 30)) := (New.alloc _).trans (New.alloc _)
  have HN := Lib.hid N0
  have HP := Lib.hid ((Blk.new w 30 c.cs).alloc (.cells zeroCe.cs 30))
  have HZ : Hid (Blk ((w.alloc (.cells c.cs 30)).alloc (.cells zeroCe.cs 30)) (w.heap.size + 1) 30 zeroCe.cs) := Lib.hid (by
    have := Blk.new (w.alloc (.cells c.cs 30)) 30 zeroCe.cs
    simpa using this)
  clear N0
  generalize (w.alloc (.cells c.cs 30)).alloc (.cells zeroCe.cs 30) = W at *
  obtain ⟨g, hg⟩ : ∃ g, w.heap.size = g := ⟨_, rfl⟩
  have HG : Hid (w.heap.size ≤ g) := Lib.hid (Nat.le_of_eq hg)
  rw [hg] at HP HZ ⊢
  clear hg
  refine (C1 _ (HT.out.new HN.out)).mono ?_
  rintro e w1 ⟨rfl, hn⟩
  have HN := Lib.hid (HN.out.trans hn)
  have HP := Lib.hid (HP.out.fr hn (fun h => h))
  have HZ := Lib.hid (HZ.out.fr hn (fun h => h))
  clear hn
  obtain ⟨d0, d1, d2, d3, d4, d5, d6, d7, d8, d9, d10, d11, d12, d13, d14, d15⟩ := HP.out.sixteen
  go_wp2_with fail
  refine (C2 _ (HT.out.new HN.out)).mono ?_
  rintro e w2 ⟨rfl, hn⟩
  have HN := Lib.hid (HN.out.trans hn)
  have HP := Lib.hid (HP.out.fr hn (fun h => h))
  have HZ := Lib.hid (HZ.out.fr hn (fun h => h))
  clear hn d0 d1 d2 d3 d4 d5 d6 d7 d8 d9 d10 d11 d12 d13 d14 d15
  obtain ⟨d0, d1, d2, d3, d4, d5, d6, d7, d8, d9, d10, d11, d12, d13, d14, d15⟩ := HP.out.sixteen
  go_wp2_with fail
  refine (C3 _).mono ?_
  rintro e w3 ⟨rfl, hn⟩
  have HN := Lib.hid (HN.out.trans hn)
  have HP := Lib.hid (HP.out.fr hn (fun h => h))
  have HZ := Lib.hid (HZ.out.fr hn (fun h => h))
  clear hn d0 d1 d2 d3 d4 d5 d6 d7 d8 d9 d10 d11 d12 d13 d14 d15
  obtain ⟨d0, d1, d2, d3, d4, d5, d6, d7, d8, d9, d10, d11, d12, d13, d14, d15⟩ := HP.out.sixteen
  go_wp2_with fail
  refine (C4 g _ HP.out).mono ?_
  rintro e w4 ⟨rfl, hn⟩
  have HN := Lib.hid (HN.out.trans hn)
  have HP := Lib.hid (HP.out.fr hn (fun h => h))
  have HZ := Lib.hid (HZ.out.fr hn (fun h => h))
  clear hn d0 d1 d2 d3 d4 d5 d6 d7 d8 d9 d10 d11 d12 d13 d14 d15
  obtain ⟨d0, d1, d2, d3, d4, d5, d6, d7, d8, d9, d10, d11, d12, d13, d14, d15⟩ := HP.out.sixteen
  have fp := HP.out.free
  go_upto_region 9 with fail
  clear d0 d1 d2 d3 d4 d5 d6 d7 d8 d9 d10 d11 d12 d13 d14 d15 fp
  have HP : Hid (Blk (w4.setCell ⟨g, 2, none⟩ (.int .i32 m)) g 30 (Ce.cs { c with m1 := m })) := Lib.hid (HP.out.set 2 _)
  have HZ := Lib.hid (HZ.out.far (p := ⟨g, 2, none⟩) (by simp) (.int .i32 m))
  have HN := Lib.hid (HN.out.setCell (p := ⟨g, 2, none⟩) (.inr HG.out) (.int .i32 m))
  generalize w4.setCell ⟨g, 2, none⟩ (.int .i32 m) = w5 at *
  obtain ⟨d0, d1, d2, d3, d4, d5, d6, d7, d8, d9, d10, d11, d12, d13, d14, d15⟩ := HP.out.sixteen
  go_wp2_with (refine stC rfl _ _ rfl (g + 1) zeroCe { c with m1 := m } rfl rfl HZ.out ?_)
  intro w9 hz hf _
  have HZ := Lib.hid hz
  have HN := Lib.hid (new_far HN.out hf (by have := HG.out; omega))
  clear hz hf
  go_wp2_with fail
  exact ret_ce rfl rfl rfl HZ.out rfl ⟨rfl, HN.out⟩

set_option maxHeartbeats 3200000 in
theorem cm_2 (c : Ce) (m : Int) (hv : cellB c = true) (hm : ofI m = 0) (hr : c.r ≠ 0) (hk : nM c = 2) (w : World) (hT : Tab w) : CMarkSaid c m { c with m2 := m } 0 w := by
  have C1 := fun w hT => CValidK c true hv w hT
  have C2 := fun w hT => OfK m 0 hm w hT
  have jr : (c.r != 0) = true := by simpa using hr
  have C3 := fun w => WrittenK c true jr w
  clear jr
  have C4 : ∀ (g : Nat) (w : World), Blk w g 30 c.cs → Calls Tryd.prog 46 #[.slice (some ⟨g, 1, none⟩) 3 3, .int .i32 0] w fun e w' => e = .returned (.int .i64 (2)) ∧ New w w' := fun g w hB => by
    have := IndexK c g w hB
    rwa [idx_nM, hk] at this
  have HT := Lib.hid hT
  clear hT hv hm hr hk
  go_enter Tryd.func31, Tryd.ntmps31
  go_wp2_with fail
  have N0 : New w ((w.alloc (.cells c.cs 30)).alloc (.cells zeroCe.cs 30)) := (New.alloc _).trans (New.alloc _)
  have HN := Lib.hid N0
  have HP := Lib.hid ((Blk.new w 30 c.cs).alloc (.cells zeroCe.cs 30))
  have HZ : Hid (Blk ((w.alloc (.cells c.cs 30)).alloc (.cells zeroCe.cs 30)) (w.heap.size + 1) 30 zeroCe.cs) := Lib.hid (by
    have := Blk.new (w.alloc (.cells c.cs 30)) 30 zeroCe.cs
    simpa using this)
  clear N0
  generalize (w.alloc (.cells c.cs 30)).alloc (.cells zeroCe.cs 30) = W at *
  obtain ⟨g, hg⟩ : ∃ g, w.heap.size = g := ⟨_, rfl⟩
  have HG : Hid (w.heap.size ≤ g) := Lib.hid (Nat.le_of_eq hg)
  rw [hg] at HP HZ ⊢
  clear hg
  refine (C1 _ (HT.out.new HN.out)).mono ?_
  rintro e w1 ⟨rfl, hn⟩
  have HN := Lib.hid (HN.out.trans hn)
  have HP := Lib.hid (HP.out.fr hn (fun h => h))
  have HZ := Lib.hid (HZ.out.fr hn (fun h => h))
  clear hn
  obtain ⟨d0, d1, d2, d3, d4, d5, d6, d7, d8, d9, d10, d11, d12, d13, d14, d15⟩ := HP.out.sixteen
  go_wp2_with fail
  refine (C2 _ (HT.out.new HN.out)).mono ?_
  rintro e w2 ⟨rfl, hn⟩
  have HN := Lib.hid (HN.out.trans hn)
  have HP := Lib.hid (HP.out.fr hn (fun h => h))
  have HZ := Lib.hid (HZ.out.fr hn (fun h => h))
  clear hn d0 d1 d2 d3 d4 d5 d6 d7 d8 d9 d10 d11 d12 d13 d14 d15
  obtain ⟨d0, d1, d2, d3, d4, d5, d6, d7, d8, d9, d10, d11, d12, d13, d14, d15⟩ := HP.out.sixteen
  go_wp2_with fail
  refine (C3 _).mono ?_
  rintro e w3 ⟨rfl, hn⟩
  have HN := Lib.hid (HN.out.trans hn)
  have HP := Lib.hid (HP.out.fr hn (fun h => h))
  have HZ := Lib.hid (HZ.out.fr hn (fun h => h))
  clear hn d0 d1 d2 d3 d4 d5 d6 d7 d8 d9 d10 d11 d12 d13 d14 d15
  obtain ⟨d0, d1, d2, d3, d4, d5, d6, d7, d8, d9, d10, d11, d12, d13, d14, d15⟩ := HP.out.sixteen
  go_wp2_with fail
  refine (C4 g _ HP.out).mono ?_
  rintro e w4 ⟨rfl, hn⟩
  have HN := Lib.hid (HN.out.trans hn)
  have HP := Lib.hid (HP.out.fr hn (fun h => h))
  have HZ := Lib.hid (HZ.out.fr hn (fun h => h))
  clear hn d0 d1 d2 d3 d4 d5 d6 d7 d8 d9 d10 d11 d12 d13 d14 d15
  obtain ⟨d0, d1, d2, d3, d4, d5, d6, d7, d8, d9, d10, d11, d12, d13, d14, d15⟩ := HP.out.sixteen
  have fp := HP.out.free
  go_upto_region 9 with fail
  clear d0 d1 d2 d3 d4 d5 d6 d7 d8 d9 d10 d11 d12 d13 d14 d15 fp
  have HP : Hid (Blk (w4.setCell ⟨g, 3, none⟩ (.int .i32 m)) g 30 (Ce.cs { c with m2 := m })) := Lib.hid (HP.out.set 3 _)
  have HZ := Lib.hid (HZ.out.far (p := ⟨g, 3, none⟩) (by simp) (.int .i32 m))
  have HN := Lib.hid (HN.out.setCell (p := ⟨g, 3, none⟩) (.inr HG.out) (.int .i32 m))
  generalize w4.setCell ⟨g, 3, none⟩ (.int .i32 m) = w5 at *
  obtain ⟨d0, d1, d2, d3, d4, d5, d6, d7, d8, d9, d10, d11, d12, d13, d14, d15⟩ := HP.out.sixteen
  go_wp2_with (refine stC rfl _ _ rfl (g + 1) zeroCe { c with m2 := m } rfl rfl HZ.out ?_)
  intro w9 hz hf _
  have HZ := Lib.hid hz
  have HN := Lib.hid (new_far HN.out hf (by have := HG.out; omega))
  clear hz hf
  go_wp2_with fail
  exact ret_ce rfl rfl rfl HZ.out rfl ⟨rfl, HN.out⟩

theorem CMark_any (c : Ce) (m : Int) (w : World) (hT : Tab w) : CMarkSaid c m (markR c m).1 (markR c m).2 w := by
  cases hv : cellB c with
  | false => simpa [markR, hv] using cm_bad c m hv w hT
  | true =>
    by_cases hm : ofI m = 0
    · by_cases hr : c.r = 0
      · simpa [markR, hv, hm, hr] using cm_state c m hv hm hr w hT
      · have hle := nM_le c
        have hk : nM c = 3 ∨ nM c = 0 ∨ nM c = 1 ∨ nM c = 2 := by omega
        rcases hk with h | h | h | h
        · simpa [markR, hv, hm, hr, h] using cm_full c m hv hm hr h w hT
        · have e : setM c m = { c with m0 := m } := by
            unfold nM at h
            split at h
            · next h0 => simp [setM, h0]
            · split at h
              · omega
              · split at h <;> omega
          have : markR c m = ({ c with m0 := m }, 0) := by simp [markR, hv, hm, hr, h, e]
          rw [this]
          exact cm_0 c m hv hm hr h w hT
        · have e : setM c m = { c with m1 := m } := by
            unfold nM at h
            split at h
            · omega
            · next h0 =>
              split at h
              · next h1 => simp [setM, h0, h1]
              · split at h <;> omega
          have : markR c m = ({ c with m1 := m }, 0) := by simp [markR, hv, hm, hr, h, e]
          rw [this]
          exact cm_1 c m hv hm hr h w hT
        · have e : setM c m = { c with m2 := m } := by
            unfold nM at h
            split at h
            · omega
            · next h0 =>
              split at h
              · omega
              · next h1 => simp [setM, h0, h1]
          have : markR c m = ({ c with m2 := m }, 0) := by simp [markR, hv, hm, hr, h, e]
          rw [this]
          exact cm_2 c m hv hm hr h w hT
    · simpa [markR, hv, hm] using cm_not c m hv hm w hT

end Go.Proofs.YtciifgajnblenaaDoor
