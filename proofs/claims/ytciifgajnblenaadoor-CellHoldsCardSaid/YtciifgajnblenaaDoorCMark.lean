/-
  The specification's Mark.
-/
import Derived.Test.YtciifgajnblenaaDoorCValid
import Derived.Test.YtciifgajnblenaaDoorCStore
import Derived.Deep.DeepCutAuto
namespace Go.Proofs.YtciifgajnblenaaDoor
open Go.RowKit

theorem VCk (c : Ce) (b : Bool) (h : cellB c = b) (w : World) : Calls Tryd.prog 15 #[c.v] w fun e w' => e = .returned (.bool b) ∧ New w w' := by
  subst h
  exact RValidC_any c w
/-- What Mark answers. -/
abbrev MarkSaid (c : Ce) (m : Int) (x : Ce) (e : Int) (w : World) : Prop := Calls Tryd.prog 20 #[c.v, .int .i32 m] w fun e' w' => e' = .returned (.tuple #[.agg x.cs, .int .i64 e]) ∧ New w w'
theorem cell_okM {c : Ce} (h : cellB c = true) : okM c = true := by
  simp only [cellB, Bool.and_eq_true] at h
  exact h.1.2
/-- A block of the call's own was turned. -/
theorem new_far {a w w' : World} {g : Nat} (h : New a w) (hf : Fr (fun k => k = g) w w') (hg : a.heap.size ≤ g) : New a w' :=
  ⟨hf.os.trans h.os, hf.tape.trans h.tape, hf.output.trans h.output, Nat.le_trans h.size hf.size, fun k hk _ => (hf.block k (Nat.lt_of_lt_of_le hk h.size) (by omega)).trans (h.block k hk (fun h => h))⟩

set_option maxHeartbeats 3200000 in
theorem mark_bad (c : Ce) (m : Int) (hv : cellB c = false) (w : World) : MarkSaid c m zeroCe 2 w := by
  have C1 := fun w => VCk c false hv w
  clear hv
  go_enter Tryd.func20, Tryd.ntmps20
  go_wp2_with fail
  have N0 : New w ((w.alloc (.cells c.cs 30)).alloc (.cells zeroCe.cs 30)) := (New.alloc _).trans (New.alloc _)
  have HN := Lib.hid N0
  have HP := Lib.hid ((Blk.new w 30 c.cs).alloc (.cells zeroCe.cs 30))
  have HZ : Hid (Blk ((w.alloc (.cells c.cs 30)).alloc (.cells zeroCe.cs 30)) (w.heap.size + 1) 30 zeroCe.cs) := Lib.hid (by
    have := Blk.new (w.alloc (.cells c.cs 30)) 30 zeroCe.cs
    simpa using this)
  clear N0
  generalize (w.alloc (.cells c.cs 30)).alloc (.cells zeroCe.cs 30) = W at *
  obtain ⟨g, hg⟩ : ∃ g, w.heap.size = g := ⟨_, rfl⟩
  have HG : Hid (w.heap.size ≤ g) := Lib.hid (Nat.le_of_eq hg)
  rw [hg] at HP HZ ⊢
  clear hg
  obtain ⟨d0, d1, d2, d3, d4, d5, d6, d7, d8, d9, d10, d11, d12, d13, d14, d15⟩ := HP.out.sixteen
  refine (C1 _).mono ?_
  rintro e w1 ⟨rfl, hn⟩
  have HN := Lib.hid (HN.out.trans hn)
  have HP := Lib.hid (HP.out.fr hn (fun h => h))
  have HZ := Lib.hid (HZ.out.fr hn (fun h => h))
  clear hn d0 d1 d2 d3 d4 d5 d6 d7 d8 d9 d10 d11 d12 d13 d14 d15
  go_wp2_with (refine stC rfl _ _ rfl (g + 1) zeroCe zeroCe rfl rfl HZ.out ?_)
  intro w9 hz hf _
  have HZ := Lib.hid hz
  have HN := Lib.hid (new_far HN.out hf (by have := HG.out; omega))
  clear hz hf
  go_wp2_with fail
  exact ret_ce rfl rfl rfl HZ.out rfl ⟨rfl, HN.out⟩

set_option maxHeartbeats 3200000 in
theorem mark_not (c : Ce) (m : Int) (hv : cellB c = true) (hm : ofI m ≠ 0) (w : World) : MarkSaid c m zeroCe 2 w := by
  have C1 := fun w => VCk c true hv w
  have C2 := fun w => ROf_k m _ rfl w
  have jm : (ofI m != 0) = true := by simpa using hm
  clear hv hm
  go_enter Tryd.func20, Tryd.ntmps20
  go_wp2_with fail
  have N0 : New w ((w.alloc (.cells c.cs 30)).alloc (.cells zeroCe.cs 30)) := (New.alloc _).trans (New.alloc _)
  have HN := Lib.hid N0
  have HP := Lib.hid ((Blk.new w 30 c.cs).alloc (.cells zeroCe.cs 30))
  have HZ : Hid (Blk ((w.alloc (.cells c.cs 30)).alloc (.cells zeroCe.cs 30)) (w.heap.size + 1) 30 zeroCe.cs) := Lib.hid (by
    have := Blk.new (w.alloc (.cells c.cs 30)) 30 zeroCe.cs
    simpa using this)
  clear N0
  generalize (w.alloc (.cells c.cs 30)).alloc (.cells zeroCe.cs 30) = W at *
  obtain ⟨g, hg⟩ : ∃ g, w.heap.size = g := ⟨_, rfl⟩
  have HG : Hid (w.heap.size ≤ g) := Lib.hid (Nat.le_of_eq hg)
  rw [hg] at HP HZ ⊢
  clear hg
  obtain ⟨d0, d1, d2, d3, d4, d5, d6, d7, d8, d9, d10, d11, d12, d13, d14, d15⟩ := HP.out.sixteen
  refine (C1 _).mono ?_
  rintro e w1 ⟨rfl, hn⟩
  have HN := Lib.hid (HN.out.trans hn)
  have HP := Lib.hid (HP.out.fr hn (fun h => h))
  have HZ := Lib.hid (HZ.out.fr hn (fun h => h))
  clear hn d0 d1 d2 d3 d4 d5 d6 d7 d8 d9 d10 d11 d12 d13 d14 d15
  go_wp2_with fail
  refine (C2 _).mono ?_
  rintro e w2 ⟨rfl, hn⟩
  have HN := Lib.hid (HN.out.trans hn)
  have HP := Lib.hid (HP.out.fr hn (fun h => h))
  have HZ := Lib.hid (HZ.out.fr hn (fun h => h))
  clear hn
  go_wp2_with (refine stC rfl _ _ rfl (g + 1) zeroCe zeroCe rfl rfl HZ.out ?_)
  intro w9 hz hf _
  have HZ := Lib.hid hz
  have HN := Lib.hid (new_far HN.out hf (by have := HG.out; omega))
  clear hz hf
  go_wp2_with fail
  exact ret_ce rfl rfl rfl HZ.out rfl ⟨rfl, HN.out⟩

set_option maxHeartbeats 3200000 in
theorem mark_state (c : Ce) (m : Int) (hv : cellB c = true) (hm : ofI m = 0) (hr : c.r = 0) (w : World) : MarkSaid c m zeroCe 8 w := by
  have C1 := fun w => VCk c true hv w
  have C2 := fun w => ROf_k m 0 hm w
  have jr : (c.r == 0) = true := by simpa using hr
  clear hv hm hr
  go_enter Tryd.func20, Tryd.ntmps20
  go_wp2_with fail
  have N0 : New w ((w.alloc (.cells c.cs 30)).alloc (.cells zeroCe.cs 30)) := (New.alloc _).trans (New.alloc _)
  have HN := Lib.hid N0
  have HP := Lib.hid ((Blk.new w 30 c.cs).alloc (.cells zeroCe.cs 30))
  have HZ : Hid (Blk ((w.alloc (.cells c.cs 30)).alloc (.cells zeroCe.cs 30)) (w.heap.size + 1) 30 zeroCe.cs) := Lib.hid (by
    have := Blk.new (w.alloc (.cells c.cs 30)) 30 zeroCe.cs
    simpa using this)
  clear N0
  generalize (w.alloc (.cells c.cs 30)).alloc (.cells zeroCe.cs 30) = W at *
  obtain ⟨g, hg⟩ : ∃ g, w.heap.size = g := ⟨_, rfl⟩
  have HG : Hid (w.heap.size ≤ g) := Lib.hid (Nat.le_of_eq hg)
  rw [hg] at HP HZ ⊢
  clear hg
  obtain ⟨d0, d1, d2, d3, d4, d5, d6, d7, d8, d9, d10, d11, d12, d13, d14, d15⟩ := HP.out.sixteen
  refine (C1 _).mono ?_
  rintro e w1 ⟨rfl, hn⟩
  have HN := Lib.hid (HN.out.trans hn)
  have HP := Lib.hid (HP.out.fr hn (fun h => h))
  have HZ := Lib.hid (HZ.out.fr hn (fun h => h))
  clear hn d0 d1 d2 d3 d4 d5 d6 d7 d8 d9 d10 d11 d12 d13 d14 d15
  go_wp2_with fail
  refine (C2 _).mono ?_
  rintro e w2 ⟨rfl, hn⟩
  have HN := Lib.hid (HN.out.trans hn)
  have HP := Lib.hid (HP.out.fr hn (fun h => h))
  have HZ := Lib.hid (HZ.out.fr hn (fun h => h))
  clear hn
  obtain ⟨d0, d1, d2, d3, d4, d5, d6, d7, d8, d9, d10, d11, d12, d13, d14, d15⟩ := HP.out.sixteen
  go_wp2_with (refine stC rfl _ _ rfl (g + 1) zeroCe zeroCe rfl rfl HZ.out ?_)
  intro w9 hz hf _
  have HZ := Lib.hid hz
  have HN := Lib.hid (new_far HN.out hf (by have := HG.out; omega))
  clear hz hf
  go_wp2_with fail
  exact ret_ce rfl rfl rfl HZ.out rfl ⟨rfl, HN.out⟩

set_option maxHeartbeats 3200000 in
theorem mark_full (c : Ce) (m : Int) (hv : cellB c = true) (hm : ofI m = 0) (hr : c.r ≠ 0) (hk : nM c = 3) (w : World) : MarkSaid c m zeroCe 7 w := by
  have C1 := fun w => VCk c true hv w
  have C2 := fun w => ROf_k m 0 hm w
  have C3 := fun w => RMC c true 3 (cell_okM hv) (fun _ => hk) w
  have jr : (c.r == 0) = false := by simpa using hr
  clear hv hm hr hk
  go_enter Tryd.func20, Tryd.ntmps20
  go_wp2_with fail
  have N0 : New w ((w.alloc (.cells c.cs 30)).alloc (.cells zeroCe.cs 30)) := (New.alloc _).trans (New.alloc _)
  have HN := Lib.hid N0
  have HP := Lib.hid ((Blk.new w 30 c.cs).alloc (.cells zeroCe.cs 30))
  have HZ : Hid (Blk ((w.alloc (.cells c.cs 30)).alloc (.cells zeroCe.cs 30)) (w.heap.size + 1) 30 zeroCe.cs) := Lib.hid (by
    have := Blk.new (w.alloc (.cells c.cs 30)) 30 zeroCe.cs
    simpa using this)
  clear N0
  generalize (w.alloc (.cells c.cs 30)).alloc (.cells zeroCe.cs 30) = W at *
  obtain ⟨g, hg⟩ : ∃ g, w.heap.size = g := ⟨_, rfl⟩
  have HG : Hid (w.heap.size ≤ g) := Lib.hid (Nat.le_of_eq hg)
  rw [hg] at HP HZ ⊢
  clear hg
  obtain ⟨d0, d1, d2, d3, d4, d5, d6, d7, d8, d9, d10, d11, d12, d13, d14, d15⟩ := HP.out.sixteen
  refine (C1 _).mono ?_
  rintro e w1 ⟨rfl, hn⟩
  have HN := Lib.hid (HN.out.trans hn)
  have HP := Lib.hid (HP.out.fr hn (fun h => h))
  have HZ := Lib.hid (HZ.out.fr hn (fun h => h))
  clear hn d0 d1 d2 d3 d4 d5 d6 d7 d8 d9 d10 d11 d12 d13 d14 d15
  go_wp2_with fail
  refine (C2 _).mono ?_
  rintro e w2 ⟨rfl, hn⟩
  have HN := Lib.hid (HN.out.trans hn)
  have HP := Lib.hid (HP.out.fr hn (fun h => h))
  have HZ := Lib.hid (HZ.out.fr hn (fun h => h))
  clear hn
  obtain ⟨d0, d1, d2, d3, d4, d5, d6, d7, d8, d9, d10, d11, d12, d13, d14, d15⟩ := HP.out.sixteen
  go_wp2_with fail
  refine (C3 _).mono ?_
  rintro e w3 ⟨⟨n, rfl, hnk⟩, hn⟩
  obtain rfl := hnk trivial
  have HN := Lib.hid (HN.out.trans hn)
  have HP := Lib.hid (HP.out.fr hn (fun h => h))
  have HZ := Lib.hid (HZ.out.fr hn (fun h => h))
  clear hn d0 d1 d2 d3 d4 d5 d6 d7 d8 d9 d10 d11 d12 d13 d14 d15
  go_wp2_with (refine stC rfl _ _ rfl (g + 1) zeroCe zeroCe rfl rfl HZ.out ?_)
  intro w9 hz hf _
  have HZ := Lib.hid hz
  have HN := Lib.hid (new_far HN.out hf (by have := HG.out; omega))
  clear hz hf
  go_wp2_with fail
  exact ret_ce rfl rfl rfl HZ.out rfl ⟨rfl, HN.out⟩

set_option maxHeartbeats 3200000 in
theorem mark_0 (c : Ce) (m : Int) (hv : cellB c = true) (hm : ofI m = 0) (hr : c.r ≠ 0) (hk : nM c = 0) (w : World) : MarkSaid c m { c with m0 := m } 0 w := by
  have C1 := fun w => VCk c true hv w
  have C2 := fun w => ROf_k m 0 hm w
  have C3 := fun w => RMC c true 0 (cell_okM hv) (fun _ => hk) w
  have jr : (c.r == 0) = false := by simpa using hr
  clear hv hm hr hk
  go_enter Tryd.func20, Tryd.ntmps20
  go_wp2_with fail
  have N0 : New w ((w.alloc (.cells c.cs 30)).alloc (.cells zeroCe.cs 30)) := (New.alloc _).trans (New.alloc _)
  have HN := Lib.hid N0
  have HP := Lib.hid ((Blk.new w 30 c.cs).alloc (.cells zeroCe.cs 30))
  have HZ : Hid (Blk ((w.alloc (.cells c.cs 30)).alloc (.cells zeroCe.cs 30)) (w.heap.size + 1) 30 zeroCe.cs) := Lib.hid (by
    have := Blk.new (w.alloc (.cells c.cs 30)) 30 zeroCe.cs
    simpa using this)
  clear N0
  generalize (w.alloc (.cells c.cs 30)).alloc (.cells zeroCe.cs 30) = W at *
  obtain ⟨g, hg⟩ : ∃ g, w.heap.size = g := ⟨_, rfl⟩
  have HG : Hid (w.heap.size ≤ g) := Lib.hid (Nat.le_of_eq hg)
  rw [hg] at HP HZ ⊢
  clear hg
  obtain ⟨d0, d1, d2, d3, d4, d5, d6, d7, d8, d9, d10, d11, d12, d13, d14, d15⟩ := HP.out.sixteen
  refine (C1 _).mono ?_
  rintro e w1 ⟨rfl, hn⟩
  have HN := Lib.hid (HN.out.trans hn)
  have HP := Lib.hid (HP.out.fr hn (fun h => h))
  have HZ := Lib.hid (HZ.out.fr hn (fun h => h))
  clear hn d0 d1 d2 d3 d4 d5 d6 d7 d8 d9 d10 d11 d12 d13 d14 d15
  go_wp2_with fail
  refine (C2 _).mono ?_
  rintro e w2 ⟨rfl, hn⟩
  have HN := Lib.hid (HN.out.trans hn)
  have HP := Lib.hid (HP.out.fr hn (fun h => h))
  have HZ := Lib.hid (HZ.out.fr hn (fun h => h))
  clear hn
  obtain ⟨d0, d1, d2, d3, d4, d5, d6, d7, d8, d9, d10, d11, d12, d13, d14, d15⟩ := HP.out.sixteen
  go_wp2_with fail
  refine (C3 _).mono ?_
  rintro e w3 ⟨⟨n, rfl, hnk⟩, hn⟩
  obtain rfl := hnk trivial
  have HN := Lib.hid (HN.out.trans hn)
  have HP := Lib.hid (HP.out.fr hn (fun h => h))
  have HZ := Lib.hid (HZ.out.fr hn (fun h => h))
  clear hn d0 d1 d2 d3 d4 d5 d6 d7 d8 d9 d10 d11 d12 d13 d14 d15
  obtain ⟨d0, d1, d2, d3, d4, d5, d6, d7, d8, d9, d10, d11, d12, d13, d14, d15⟩ := HP.out.sixteen
  have fp := HP.out.free
  go_upto_region 9 with fail
  clear d0 d1 d2 d3 d4 d5 d6 d7 d8 d9 d10 d11 d12 d13 d14 d15 fp
  have HP : Hid (Blk (w3.setCell ⟨g, 1, none⟩ (.int .i32 m)) g 30 (Ce.cs { c with m0 := m })) := Lib.hid (HP.out.set 1 _)
  have HZ := Lib.hid (HZ.out.far (p := ⟨g, 1, none⟩) (by simp) (.int .i32 m))
  have HN := Lib.hid (HN.out.setCell (p := ⟨g, 1, none⟩) (.inr HG.out) (.int .i32 m))
  generalize w3.setCell ⟨g, 1, none⟩ (.int .i32 m) = w4 at *
  obtain ⟨d0, d1, d2, d3, d4, d5, d6, d7, d8, d9, d10, d11, d12, d13, d14, d15⟩ := HP.out.sixteen
  go_wp2_with (refine stC rfl _ _ rfl (g + 1) zeroCe { c with m0 := m } rfl rfl HZ.out ?_)
  intro w9 hz hf _
  have HZ := Lib.hid hz
  have HN := Lib.hid (new_far HN.out hf (by have := HG.out; omega))
  clear hz hf
  go_wp2_with fail
  exact ret_ce rfl rfl rfl HZ.out rfl ⟨rfl, HN.out⟩

set_option maxHeartbeats 3200000 in
theorem mark_1 (c : Ce) (m : Int) (hv : cellB c = true) (hm : ofI m = 0) (hr : c.r ≠ 0) (hk : nM c = 1) (w : World) : MarkSaid c m { c with m1 := m } 0 w := by
  have C1 := fun w => VCk c true hv w
  have C2 := fun w => ROf_k m 0 hm w
  have C3 := fun w => RMC c true 1 (cell_okM hv) (fun _ => hk) w
  have jr : (c.r == 0) = false := by simpa using hr
  clear hv hm hr hk
  go_enter Tryd.func20, Tryd.ntmps20
  go_wp2_with fail
  have N0 : New w ((w.alloc (.cells c.cs 30)).alloc (.cells zeroCe.cs 30)) := (New.alloc _).trans (New.alloc _)
  have HN := Lib.hid N0
  have HP := Lib.hid ((Blk.new w 30 c.cs).alloc (.cells zeroCe.cs 30))
  have HZ : Hid (Blk ((w.alloc (.cells c.cs 30)).alloc (.cells zeroCe.cs 30)) (w.heap.size + 1) 30 zeroCe.cs) := Lib.hid (by
    have := Blk.new (w.alloc (.cells c.cs 30)) 30 zeroCe.cs
    simpa using this)
  clear N0
  generalize (w.alloc (.cells c.cs 30)).alloc (.cells zeroCe.cs 30) = W at *
  obtain ⟨g, hg⟩ : ∃ g, w.heap.size = g := ⟨_, rfl⟩
  have HG : Hid (w.heap.size ≤ g) := Lib.hid (Nat.le_of_eq hg)
  rw [hg] at HP HZ ⊢
  clear hg
  obtain ⟨d0, d1, d2, d3, d4, d5, d6, d7, d8, d9, d10, d11, d12, d13, d14, d15⟩ := HP.out.sixteen
  refine (C1 _).mono ?_
  rintro e w1 ⟨rfl, hn⟩
  have HN := Lib.hid (HN.out.trans hn)
  have HP := Lib.hid (HP.out.fr hn (fun h => h))
  have HZ := Lib.hid (HZ.out.fr hn (fun h => h))
  clear hn d0 d1 d2 d3 d4 d5 d6 d7 d8 d9 d10 d11 d12 d13 d14 d15
  go_wp2_with fail
  refine (C2 _).mono ?_
  rintro e w2 ⟨rfl, hn⟩
  have HN := Lib.hid (HN.out.trans hn)
  have HP := Lib.hid (HP.out.fr hn (fun h => h))
  have HZ := Lib.hid (HZ.out.fr hn (fun h => h))
  clear hn
  obtain ⟨d0, d1, d2, d3, d4, d5, d6, d7, d8, d9, d10, d11, d12, d13, d14, d15⟩ := HP.out.sixteen
  go_wp2_with fail
  refine (C3 _).mono ?_
  rintro e w3 ⟨⟨n, rfl, hnk⟩, hn⟩
  obtain rfl := hnk trivial
  have HN := Lib.hid (HN.out.trans hn)
  have HP := Lib.hid (HP.out.fr hn (fun h => h))
  have HZ := Lib.hid (HZ.out.fr hn (fun h => h))
  clear hn d0 d1 d2 d3 d4 d5 d6 d7 d8 d9 d10 d11 d12 d13 d14 d15
  obtain ⟨d0, d1, d2, d3, d4, d5, d6, d7, d8, d9, d10, d11, d12, d13, d14, d15⟩ := HP.out.sixteen
  have fp := HP.out.free
  go_upto_region 9 with fail
  clear d0 d1 d2 d3 d4 d5 d6 d7 d8 d9 d10 d11 d12 d13 d14 d15 fp
  have HP : Hid (Blk (w3.setCell ⟨g, 2, none⟩ (.int .i32 m)) g 30 (Ce.cs { c with m1 := m })) := Lib.hid (HP.out.set 2 _)
  have HZ := Lib.hid (HZ.out.far (p := ⟨g, 2, none⟩) (by simp) (.int .i32 m))
  have HN := Lib.hid (HN.out.setCell (p := ⟨g, 2, none⟩) (.inr HG.out) (.int .i32 m))
  generalize w3.setCell ⟨g, 2, none⟩ (.int .i32 m) = w4 at *
  obtain ⟨d0, d1, d2, d3, d4, d5, d6, d7, d8, d9, d10, d11, d12, d13, d14, d15⟩ := HP.out.sixteen
  go_wp2_with (refine stC rfl _ _ rfl (g + 1) zeroCe { c with m1 := m } rfl rfl HZ.out ?_)
  intro w9 hz hf _
  have HZ := Lib.hid hz
  have HN := Lib.hid (new_far HN.out hf (by have := HG.out; omega))
  clear hz hf
  go_wp2_with fail
  exact ret_ce rfl rfl rfl HZ.out rfl ⟨rfl, HN.out⟩

set_option maxHeartbeats 3200000 in
theorem mark_2 (c : Ce) (m : Int) (hv : cellB c = true) (hm : ofI m = 0) (hr : c.r ≠ 0) (hk : nM c = 2) (w : World) : MarkSaid c m { c with m2 := m } 0 w := by
  have C1 := fun w => VCk c true hv w
  have C2 := fun w => ROf_k m 0 hm w
  have C3 := fun w => RMC c true 2 (cell_okM hv) (fun _ => hk) w
  have jr : (c.r == 0) = false := by simpa using hr
  clear hv hm hr hk
  go_enter Tryd.func20, Tryd.ntmps20
  go_wp2_with fail
  have N0 : New w ((w.alloc (.cells c.cs 30)).alloc (.cells zeroCe.cs 30)) := (New.alloc _).trans (New.alloc _)
  have HN := Lib.hid N0
  have HP := Lib.hid ((Blk.new w 30 c.cs).alloc (.cells zeroCe.cs 30))
  have HZ : Hid (Blk ((w.alloc (.cells c.cs 30)).alloc (.cells zeroCe.cs 30)) (w.heap.size + 1) 30 zeroCe.cs) := Lib.hid (by
    have := Blk.new (w.alloc (.cells c.cs 30)) 30 zeroCe.cs
    simpa using this)
  clear N0
  generalize (w.alloc (.cells c.cs 30)).alloc (.cells zeroCe.cs 30) = W at *
  obtain ⟨g, hg⟩ : ∃ g, w.heap.size = g := ⟨_, rfl⟩
  have HG : Hid (w.heap.size ≤ g) := Lib.hid (Nat.le_of_eq hg)
  rw [hg] at HP HZ ⊢
  clear hg
  obtain ⟨d0, d1, d2, d3, d4, d5, d6, d7, d8, d9, d10, d11, d12, d13, d14, d15⟩ := HP.out.sixteen
  refine (C1 _).mono ?_
  rintro e w1 ⟨rfl, hn⟩
  have HN := Lib.hid (HN.out.trans hn)
  have HP := Lib.hid (HP.out.fr hn (fun h => h))
  have HZ := Lib.hid (HZ.out.fr hn (fun h => h))
  clear hn d0 d1 d2 d3 d4 d5 d6 d7 d8 d9 d10 d11 d12 d13 d14 d15
  go_wp2_with fail
  refine (C2 _).mono ?_
  rintro e w2 ⟨rfl, hn⟩
  have HN := Lib.hid (HN.out.trans hn)
  have HP := Lib.hid (HP.out.fr hn (fun h => h))
  have HZ := Lib.hid (HZ.out.fr hn (fun h => h))
  clear hn
  obtain ⟨d0, d1, d2, d3, d4, d5, d6, d7, d8, d9, d10, d11, d12, d13, d14, d15⟩ := HP.out.sixteen
  go_wp2_with fail
  refine (C3 _).mono ?_
  rintro e w3 ⟨⟨n, rfl, hnk⟩, hn⟩
  obtain rfl := hnk trivial
  have HN := Lib.hid (HN.out.trans hn)
  have HP := Lib.hid (HP.out.fr hn (fun h => h))
  have HZ := Lib.hid (HZ.out.fr hn (fun h => h))
  clear hn d0 d1 d2 d3 d4 d5 d6 d7 d8 d9 d10 d11 d12 d13 d14 d15
  obtain ⟨d0, d1, d2, d3, d4, d5, d6, d7, d8, d9, d10, d11, d12, d13, d14, d15⟩ := HP.out.sixteen
  have fp := HP.out.free
  go_upto_region 9 with fail
  clear d0 d1 d2 d3 d4 d5 d6 d7 d8 d9 d10 d11 d12 d13 d14 d15 fp
  have HP : Hid (Blk (w3.setCell ⟨g, 3, none⟩ (.int .i32 m)) g 30 (Ce.cs { c with m2 := m })) := Lib.hid (HP.out.set 3 _)
  have HZ := Lib.hid (HZ.out.far (p := ⟨g, 3, none⟩) (by simp) (.int .i32 m))
  have HN := Lib.hid (HN.out.setCell (p := ⟨g, 3, none⟩) (.inr HG.out) (.int .i32 m))
  generalize w3.setCell ⟨g, 3, none⟩ (.int .i32 m) = w4 at *
  obtain ⟨d0, d1, d2, d3, d4, d5, d6, d7, d8, d9, d10, d11, d12, d13, d14, d15⟩ := HP.out.sixteen
  go_wp2_with (refine stC rfl _ _ rfl (g + 1) zeroCe { c with m2 := m } rfl rfl HZ.out ?_)
  intro w9 hz hf _
  have HZ := Lib.hid hz
  have HN := Lib.hid (new_far HN.out hf (by have := HG.out; omega))
  clear hz hf
  go_wp2_with fail
  exact ret_ce rfl rfl rfl HZ.out rfl ⟨rfl, HN.out⟩

theorem RMark_any (c : Ce) (m : Int) (w : World) : MarkSaid c m (markR c m).1 (markR c m).2 w := by
  cases hv : cellB c with
  | false => simpa [markR, hv] using mark_bad c m hv w
  | true =>
    by_cases hm : ofI m = 0
    · by_cases hr : c.r = 0
      · simpa [markR, hv, hm, hr] using mark_state c m hv hm hr w
      · have hle := nM_le c
        have hk : nM c = 3 ∨ nM c = 0 ∨ nM c = 1 ∨ nM c = 2 := by omega
        rcases hk with h | h | h | h
        · simpa [markR, hv, hm, hr, h] using mark_full c m hv hm hr h w
        · have e : setM c m = { c with m0 := m } := by
            unfold nM at h
            split at h
            · next h0 => simp [setM, h0]
            · split at h
              · omega
              · split at h <;> omega
          have : markR c m = ({ c with m0 := m }, 0) := by simp [markR, hv, hm, hr, h, e]
          rw [this]
          exact mark_0 c m hv hm hr h w
        · have e : setM c m = { c with m1 := m } := by
            unfold nM at h
            split at h
            · omega
            · next h0 =>
              split at h
              · next h1 => simp [setM, h0, h1]
              · split at h <;> omega
          have : markR c m = ({ c with m1 := m }, 0) := by simp [markR, hv, hm, hr, h, e]
          rw [this]
          exact mark_1 c m hv hm hr h w
        · have e : setM c m = { c with m2 := m } := by
            unfold nM at h
            split at h
            · omega
            · next h0 =>
              split at h
              · omega
              · next h1 => simp [setM, h0, h1]
          have : markR c m = ({ c with m2 := m }, 0) := by simp [markR, hv, hm, hr, h, e]
          rw [this]
          exact mark_2 c m hv hm hr h w
    · simpa [markR, hv, hm] using mark_not c m hv hm w

end Go.Proofs.YtciifgajnblenaaDoor
