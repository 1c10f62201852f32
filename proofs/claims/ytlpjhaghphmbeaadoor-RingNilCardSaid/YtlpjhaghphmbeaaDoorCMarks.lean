/-
  The specification's marks of a cell, and which cells there are.
-/
import Derived.Test.YtlpjhaghphmbeaaDoorA2
import Derived.Test.YtlpjhaghphmbeaaDoorA3
namespace Go.Proofs.YtlpjhaghphmbeaaDoor
open Go.RowKit

theorem ROf_k (r k : Int) (h : ofI r = k) (w : World) : Calls Tryd.prog 85 #[.int .i32 r] w fun e w' => e = .returned (.int .i64 k) ∧ New w w' := by
  subst h
  exact ROf_any r w
/-- What marks answers. -/
abbrev MarksSaid (c : Ce) (w : World) : Prop := Calls Tryd.prog 83 #[c.v] w fun e w' => (∃ n : Int, e = .returned (.tuple #[.int .i64 n, .bool (okM c)]) ∧ (okM c = true → n = (nM c : Int))) ∧ New w w'


set_option maxHeartbeats 1600000 in
theorem marks_zzz (c : Ce) (h0 : c.m0 = 0) (h1 : c.m1 = 0) (h2 : c.m2 = 0) (w : World) : MarksSaid c w := by
  have ho : okM c = true := by simp [okM, h0, h1, h2]
  have hk : okM c = true → (0 : Int) = (nM c : Int) := by simp [okM, nM, h0, h1, h2]
  have HO := Lib.hid ho
  have HK := Lib.hid hk
  unfold MarksSaid
  rw [ho]
  clear ho hk
  have j0 : (c.m0 == 0) = true := by simpa using h0
  have j0' : (c.m0 != 0) = false := by simpa using h0
  clear h0
  have j1 : (c.m1 == 0) = true := by simpa using h1
  have j1' : (c.m1 != 0) = false := by simpa using h1
  clear h1
  have j2 : (c.m2 == 0) = true := by simpa using h2
  have j2' : (c.m2 != 0) = false := by simpa using h2
  clear h2
  go_enter Tryd.func83, Tryd.ntmps83
  go_wp2_with fail
  have HN : Hid (New w (w.alloc (.cells c.cs 95))) := Lib.hid (New.alloc _)
  have HB := Lib.hid (Blk.new w 95 c.cs)
  generalize w.alloc (.cells c.cs 95) = W at *
  generalize w.heap.size = g at *
  obtain ⟨d0, d1, d2, d3, d4, d5, d6, d7, d8, d9, d10, d11, d12, d13, d14, d15⟩ := HB.out.sixteen
  refine wp_loop_rounds 5 ?_
  rw [rounds_succ]
  go_wp2_with fail
  refine wp_loop_rounds 5 ?_
  rw [rounds_succ]
  go_wp2_with fail
  rw [rounds_succ]
  go_wp2_with fail
  rw [rounds_succ]
  go_wp2_with fail
  rw [rounds_succ]
  go_wp2_with fail
  go_ret2
  exact ⟨⟨_, rfl, fun _ => HK.out HO.out⟩, HN.out⟩

set_option maxHeartbeats 1600000 in
theorem marks_zzx (c : Ce) (h0 : c.m0 = 0) (h1 : c.m1 = 0) (h2 : c.m2 ≠ 0) (w : World) : MarksSaid c w := by
  have ho : okM c = false := by simp [okM, h0, h1, h2]
  have hk : okM c = true → (0 : Int) = (nM c : Int) := by simp [okM, nM, h0, h1, h2]
  have HO := Lib.hid ho
  have HK := Lib.hid hk
  unfold MarksSaid
  rw [ho]
  clear ho hk
  have j0 : (c.m0 == 0) = true := by simpa using h0
  have j0' : (c.m0 != 0) = false := by simpa using h0
  clear h0
  have j1 : (c.m1 == 0) = true := by simpa using h1
  have j1' : (c.m1 != 0) = false := by simpa using h1
  clear h1
  have j2 : (c.m2 == 0) = false := by simpa using h2
  have j2' : (c.m2 != 0) = true := by simpa using h2
  clear h2
  go_enter Tryd.func83, Tryd.ntmps83
  go_wp2_with fail
  have HN : Hid (New w (w.alloc (.cells c.cs 95))) := Lib.hid (New.alloc _)
  have HB := Lib.hid (Blk.new w 95 c.cs)
  generalize w.alloc (.cells c.cs 95) = W at *
  generalize w.heap.size = g at *
  obtain ⟨d0, d1, d2, d3, d4, d5, d6, d7, d8, d9, d10, d11, d12, d13, d14, d15⟩ := HB.out.sixteen
  refine wp_loop_rounds 5 ?_
  rw [rounds_succ]
  go_wp2_with fail
  refine wp_loop_rounds 5 ?_
  rw [rounds_succ]
  go_wp2_with fail
  rw [rounds_succ]
  go_wp2_with fail
  rw [rounds_succ]
  go_wp2_with fail
  go_ret2
  exact ⟨⟨_, rfl, fun h => HK.out (HO.out.trans h)⟩, HN.out⟩

set_option maxHeartbeats 1600000 in
theorem marks_zx (c : Ce) (h0 : c.m0 = 0) (h1 : c.m1 ≠ 0) (w : World) : MarksSaid c w := by
  have ho : okM c = false := by simp [okM, h0, h1]
  have hk : okM c = true → (0 : Int) = (nM c : Int) := by simp [okM, nM, h0, h1]
  have HO := Lib.hid ho
  have HK := Lib.hid hk
  unfold MarksSaid
  rw [ho]
  clear ho hk
  have j0 : (c.m0 == 0) = true := by simpa using h0
  have j0' : (c.m0 != 0) = false := by simpa using h0
  clear h0
  have j1 : (c.m1 == 0) = false := by simpa using h1
  have j1' : (c.m1 != 0) = true := by simpa using h1
  clear h1
  go_enter Tryd.func83, Tryd.ntmps83
  go_wp2_with fail
  have HN : Hid (New w (w.alloc (.cells c.cs 95))) := Lib.hid (New.alloc _)
  have HB := Lib.hid (Blk.new w 95 c.cs)
  generalize w.alloc (.cells c.cs 95) = W at *
  generalize w.heap.size = g at *
  obtain ⟨d0, d1, d2, d3, d4, d5, d6, d7, d8, d9, d10, d11, d12, d13, d14, d15⟩ := HB.out.sixteen
  refine wp_loop_rounds 5 ?_
  rw [rounds_succ]
  go_wp2_with fail
  refine wp_loop_rounds 5 ?_
  rw [rounds_succ]
  go_wp2_with fail
  rw [rounds_succ]
  go_wp2_with fail
  go_ret2
  exact ⟨⟨_, rfl, fun h => HK.out (HO.out.trans h)⟩, HN.out⟩

set_option maxHeartbeats 1600000 in
theorem marks_b (c : Ce) (h0 : c.m0 ≠ 0) (q0 : ofI c.m0 ≠ 0) (w : World) : MarksSaid c w := by
  have ho : okM c = false := by simp [okM, h0, q0]
  have hk : okM c = true → (0 : Int) = (nM c : Int) := by simp [okM, nM, h0, q0]
  have HO := Lib.hid ho
  have HK := Lib.hid hk
  unfold MarksSaid
  rw [ho]
  clear ho hk
  have j0 : (c.m0 == 0) = false := by simpa using h0
  have j0' : (c.m0 != 0) = true := by simpa using h0
  clear h0
  have HC0 : Hid (ofI c.m0 = ofI c.m0) := Lib.hid rfl
  have jq0 : (ofI c.m0 != 0) = true := by simpa using q0
  clear q0
  go_enter Tryd.func83, Tryd.ntmps83
  go_wp2_with fail
  have HN : Hid (New w (w.alloc (.cells c.cs 95))) := Lib.hid (New.alloc _)
  have HB := Lib.hid (Blk.new w 95 c.cs)
  generalize w.alloc (.cells c.cs 95) = W at *
  generalize w.heap.size = g at *
  obtain ⟨d0, d1, d2, d3, d4, d5, d6, d7, d8, d9, d10, d11, d12, d13, d14, d15⟩ := HB.out.sixteen
  refine wp_loop_rounds 5 ?_
  rw [rounds_succ]
  go_wp2_with fail
  refine (ROf_k c.m0 (ofI c.m0) (by first | exact HC0.out | rfl) _).mono ?_
  rintro e w1 ⟨rfl, hn⟩
  have HN := Lib.hid (HN.out.trans hn)
  have HB := Lib.hid (HB.out.fr hn (fun h => h))
  clear hn d0 d1 d2 d3 d4 d5 d6 d7 d8 d9 d10 d11 d12 d13 d14 d15
  obtain ⟨d0, d1, d2, d3, d4, d5, d6, d7, d8, d9, d10, d11, d12, d13, d14, d15⟩ := HB.out.sixteen
  go_wp2_with fail
  go_ret2
  exact ⟨⟨_, rfl, fun h => HK.out (HO.out.trans h)⟩, HN.out⟩

set_option maxHeartbeats 1600000 in
theorem marks_nzz (c : Ce) (h0 : c.m0 ≠ 0) (q0 : ofI c.m0 = 0) (h1 : c.m1 = 0) (h2 : c.m2 = 0) (w : World) : MarksSaid c w := by
  have ho : okM c = true := by simp [okM, h0, q0, h1, h2]
  have hk : okM c = true → (1 : Int) = (nM c : Int) := by simp [okM, nM, h0, q0, h1, h2]
  have HO := Lib.hid ho
  have HK := Lib.hid hk
  unfold MarksSaid
  rw [ho]
  clear ho hk
  have j0 : (c.m0 == 0) = false := by simpa using h0
  have j0' : (c.m0 != 0) = true := by simpa using h0
  clear h0
  have HC0 := Lib.hid q0
  clear q0
  have j1 : (c.m1 == 0) = true := by simpa using h1
  have j1' : (c.m1 != 0) = false := by simpa using h1
  clear h1
  have j2 : (c.m2 == 0) = true := by simpa using h2
  have j2' : (c.m2 != 0) = false := by simpa using h2
  clear h2
  go_enter Tryd.func83, Tryd.ntmps83
  go_wp2_with fail
  have HN : Hid (New w (w.alloc (.cells c.cs 95))) := Lib.hid (New.alloc _)
  have HB := Lib.hid (Blk.new w 95 c.cs)
  generalize w.alloc (.cells c.cs 95) = W at *
  generalize w.heap.size = g at *
  obtain ⟨d0, d1, d2, d3, d4, d5, d6, d7, d8, d9, d10, d11, d12, d13, d14, d15⟩ := HB.out.sixteen
  refine wp_loop_rounds 5 ?_
  rw [rounds_succ]
  go_wp2_with fail
  refine (ROf_k c.m0 0 (by first | exact HC0.out | rfl) _).mono ?_
  rintro e w1 ⟨rfl, hn⟩
  have HN := Lib.hid (HN.out.trans hn)
  have HB := Lib.hid (HB.out.fr hn (fun h => h))
  clear hn d0 d1 d2 d3 d4 d5 d6 d7 d8 d9 d10 d11 d12 d13 d14 d15
  obtain ⟨d0, d1, d2, d3, d4, d5, d6, d7, d8, d9, d10, d11, d12, d13, d14, d15⟩ := HB.out.sixteen
  go_wp2_with fail
  rw [rounds_succ]
  go_wp2_with fail
  refine wp_loop_rounds 5 ?_
  rw [rounds_succ]
  go_wp2_with fail
  rw [rounds_succ]
  go_wp2_with fail
  rw [rounds_succ]
  go_wp2_with fail
  go_ret2
  exact ⟨⟨_, rfl, fun _ => HK.out HO.out⟩, HN.out⟩

set_option maxHeartbeats 1600000 in
theorem marks_nzx (c : Ce) (h0 : c.m0 ≠ 0) (q0 : ofI c.m0 = 0) (h1 : c.m1 = 0) (h2 : c.m2 ≠ 0) (w : World) : MarksSaid c w := by
  have ho : okM c = false := by simp [okM, h0, q0, h1, h2]
  have hk : okM c = true → (1 : Int) = (nM c : Int) := by simp [okM, nM, h0, q0, h1, h2]
  have HO := Lib.hid ho
  have HK := Lib.hid hk
  unfold MarksSaid
  rw [ho]
  clear ho hk
  have j0 : (c.m0 == 0) = false := by simpa using h0
  have j0' : (c.m0 != 0) = true := by simpa using h0
  clear h0
  have HC0 := Lib.hid q0
  clear q0
  have j1 : (c.m1 == 0) = true := by simpa using h1
  have j1' : (c.m1 != 0) = false := by simpa using h1
  clear h1
  have j2 : (c.m2 == 0) = false := by simpa using h2
  have j2' : (c.m2 != 0) = true := by simpa using h2
  clear h2
  go_enter Tryd.func83, Tryd.ntmps83
  go_wp2_with fail
  have HN : Hid (New w (w.alloc (.cells c.cs 95))) := Lib.hid (New.alloc _)
  have HB := Lib.hid (Blk.new w 95 c.cs)
  generalize w.alloc (.cells c.cs 95) = W at *
  generalize w.heap.size = g at *
  obtain ⟨d0, d1, d2, d3, d4, d5, d6, d7, d8, d9, d10, d11, d12, d13, d14, d15⟩ := HB.out.sixteen
  refine wp_loop_rounds 5 ?_
  rw [rounds_succ]
  go_wp2_with fail
  refine (ROf_k c.m0 0 (by first | exact HC0.out | rfl) _).mono ?_
  rintro e w1 ⟨rfl, hn⟩
  have HN := Lib.hid (HN.out.trans hn)
  have HB := Lib.hid (HB.out.fr hn (fun h => h))
  clear hn d0 d1 d2 d3 d4 d5 d6 d7 d8 d9 d10 d11 d12 d13 d14 d15
  obtain ⟨d0, d1, d2, d3, d4, d5, d6, d7, d8, d9, d10, d11, d12, d13, d14, d15⟩ := HB.out.sixteen
  go_wp2_with fail
  rw [rounds_succ]
  go_wp2_with fail
  refine wp_loop_rounds 5 ?_
  rw [rounds_succ]
  go_wp2_with fail
  rw [rounds_succ]
  go_wp2_with fail
  go_ret2
  exact ⟨⟨_, rfl, fun h => HK.out (HO.out.trans h)⟩, HN.out⟩

set_option maxHeartbeats 1600000 in
theorem marks_nb (c : Ce) (h0 : c.m0 ≠ 0) (q0 : ofI c.m0 = 0) (h1 : c.m1 ≠ 0) (q1 : ofI c.m1 ≠ 0) (w : World) : MarksSaid c w := by
  have ho : okM c = false := by simp [okM, h0, q0, h1, q1]
  have hk : okM c = true → (1 : Int) = (nM c : Int) := by simp [okM, nM, h0, q0, h1, q1]
  have HO := Lib.hid ho
  have HK := Lib.hid hk
  unfold MarksSaid
  rw [ho]
  clear ho hk
  have j0 : (c.m0 == 0) = false := by simpa using h0
  have j0' : (c.m0 != 0) = true := by simpa using h0
  clear h0
  have HC0 := Lib.hid q0
  clear q0
  have j1 : (c.m1 == 0) = false := by simpa using h1
  have j1' : (c.m1 != 0) = true := by simpa using h1
  clear h1
  have HC1 : Hid (ofI c.m1 = ofI c.m1) := Lib.hid rfl
  have jq1 : (ofI c.m1 != 0) = true := by simpa using q1
  clear q1
  go_enter Tryd.func83, Tryd.ntmps83
  go_wp2_with fail
  have HN : Hid (New w (w.alloc (.cells c.cs 95))) := Lib.hid (New.alloc _)
  have HB := Lib.hid (Blk.new w 95 c.cs)
  generalize w.alloc (.cells c.cs 95) = W at *
  generalize w.heap.size = g at *
  obtain ⟨d0, d1, d2, d3, d4, d5, d6, d7, d8, d9, d10, d11, d12, d13, d14, d15⟩ := HB.out.sixteen
  refine wp_loop_rounds 5 ?_
  rw [rounds_succ]
  go_wp2_with fail
  refine (ROf_k c.m0 0 (by first | exact HC0.out | rfl) _).mono ?_
  rintro e w1 ⟨rfl, hn⟩
  have HN := Lib.hid (HN.out.trans hn)
  have HB := Lib.hid (HB.out.fr hn (fun h => h))
  clear hn d0 d1 d2 d3 d4 d5 d6 d7 d8 d9 d10 d11 d12 d13 d14 d15
  obtain ⟨d0, d1, d2, d3, d4, d5, d6, d7, d8, d9, d10, d11, d12, d13, d14, d15⟩ := HB.out.sixteen
  go_wp2_with fail
  rw [rounds_succ]
  go_wp2_with fail
  refine (ROf_k c.m1 (ofI c.m1) (by first | exact HC1.out | rfl) _).mono ?_
  rintro e w2 ⟨rfl, hn⟩
  have HN := Lib.hid (HN.out.trans hn)
  have HB := Lib.hid (HB.out.fr hn (fun h => h))
  clear hn d0 d1 d2 d3 d4 d5 d6 d7 d8 d9 d10 d11 d12 d13 d14 d15
  obtain ⟨d0, d1, d2, d3, d4, d5, d6, d7, d8, d9, d10, d11, d12, d13, d14, d15⟩ := HB.out.sixteen
  go_wp2_with fail
  go_ret2
  exact ⟨⟨_, rfl, fun h => HK.out (HO.out.trans h)⟩, HN.out⟩

set_option maxHeartbeats 1600000 in
theorem marks_nnz (c : Ce) (h0 : c.m0 ≠ 0) (q0 : ofI c.m0 = 0) (h1 : c.m1 ≠ 0) (q1 : ofI c.m1 = 0) (h2 : c.m2 = 0) (w : World) : MarksSaid c w := by
  have ho : okM c = true := by simp [okM, h0, q0, h1, q1, h2]
  have hk : okM c = true → (2 : Int) = (nM c : Int) := by simp [okM, nM, h0, q0, h1, q1, h2]
  have HO := Lib.hid ho
  have HK := Lib.hid hk
  unfold MarksSaid
  rw [ho]
  clear ho hk
  have j0 : (c.m0 == 0) = false := by simpa using h0
  have j0' : (c.m0 != 0) = true := by simpa using h0
  clear h0
  have HC0 := Lib.hid q0
  clear q0
  have j1 : (c.m1 == 0) = false := by simpa using h1
  have j1' : (c.m1 != 0) = true := by simpa using h1
  clear h1
  have HC1 := Lib.hid q1
  clear q1
  have j2 : (c.m2 == 0) = true := by simpa using h2
  have j2' : (c.m2 != 0) = false := by simpa using h2
  clear h2
  go_enter Tryd.func83, Tryd.ntmps83
  go_wp2_with fail
  have HN : Hid (New w (w.alloc (.cells c.cs 95))) := Lib.hid (New.alloc _)
  have HB := Lib.hid (Blk.new w 95 c.cs)
  generalize w.alloc (.cells c.cs 95) = W at *
  generalize w.heap.size = g at *
  obtain ⟨d0, d1, d2, d3, d4, d5, d6, d7, d8, d9, d10, d11, d12, d13, d14, d15⟩ := HB.out.sixteen
  refine wp_loop_rounds 5 ?_
  rw [rounds_succ]
  go_wp2_with fail
  refine (ROf_k c.m0 0 (by first | exact HC0.out | rfl) _).mono ?_
  rintro e w1 ⟨rfl, hn⟩
  have HN := Lib.hid (HN.out.trans hn)
  have HB := Lib.hid (HB.out.fr hn (fun h => h))
  clear hn d0 d1 d2 d3 d4 d5 d6 d7 d8 d9 d10 d11 d12 d13 d14 d15
  obtain ⟨d0, d1, d2, d3, d4, d5, d6, d7, d8, d9, d10, d11, d12, d13, d14, d15⟩ := HB.out.sixteen
  go_wp2_with fail
  rw [rounds_succ]
  go_wp2_with fail
  refine (ROf_k c.m1 0 (by first | exact HC1.out | rfl) _).mono ?_
  rintro e w2 ⟨rfl, hn⟩
  have HN := Lib.hid (HN.out.trans hn)
  have HB := Lib.hid (HB.out.fr hn (fun h => h))
  clear hn d0 d1 d2 d3 d4 d5 d6 d7 d8 d9 d10 d11 d12 d13 d14 d15
  obtain ⟨d0, d1, d2, d3, d4, d5, d6, d7, d8, d9, d10, d11, d12, d13, d14, d15⟩ := HB.out.sixteen
  go_wp2_with fail
  rw [rounds_succ]
  go_wp2_with fail
  refine wp_loop_rounds 5 ?_
  rw [rounds_succ]
  go_wp2_with fail
  rw [rounds_succ]
  go_wp2_with fail
  go_ret2
  exact ⟨⟨_, rfl, fun _ => HK.out HO.out⟩, HN.out⟩

set_option maxHeartbeats 1600000 in
theorem marks_nnb (c : Ce) (h0 : c.m0 ≠ 0) (q0 : ofI c.m0 = 0) (h1 : c.m1 ≠ 0) (q1 : ofI c.m1 = 0) (h2 : c.m2 ≠ 0) (q2 : ofI c.m2 ≠ 0) (w : World) : MarksSaid c w := by
  have ho : okM c = false := by simp [okM, h0, q0, h1, q1, h2, q2]
  have hk : okM c = true → (2 : Int) = (nM c : Int) := by simp [okM, nM, h0, q0, h1, q1, h2, q2]
  have HO := Lib.hid ho
  have HK := Lib.hid hk
  unfold MarksSaid
  rw [ho]
  clear ho hk
  have j0 : (c.m0 == 0) = false := by simpa using h0
  have j0' : (c.m0 != 0) = true := by simpa using h0
  clear h0
  have HC0 := Lib.hid q0
  clear q0
  have j1 : (c.m1 == 0) = false := by simpa using h1
  have j1' : (c.m1 != 0) = true := by simpa using h1
  clear h1
  have HC1 := Lib.hid q1
  clear q1
  have j2 : (c.m2 == 0) = false := by simpa using h2
  have j2' : (c.m2 != 0) = true := by simpa using h2
  clear h2
  have HC2 : Hid (ofI c.m2 = ofI c.m2) := Lib.hid rfl
  have jq2 : (ofI c.m2 != 0) = true := by simpa using q2
  clear q2
  go_enter Tryd.func83, Tryd.ntmps83
  go_wp2_with fail
  have HN : Hid (New w (w.alloc (.cells c.cs 95))) := Lib.hid (New.alloc _)
  have HB := Lib.hid (Blk.new w 95 c.cs)
  generalize w.alloc (.cells c.cs 95) = W at *
  generalize w.heap.size = g at *
  obtain ⟨d0, d1, d2, d3, d4, d5, d6, d7, d8, d9, d10, d11, d12, d13, d14, d15⟩ := HB.out.sixteen
  refine wp_loop_rounds 5 ?_
  rw [rounds_succ]
  go_wp2_with fail
  refine (ROf_k c.m0 0 (by first | exact HC0.out | rfl) _).mono ?_
  rintro e w1 ⟨rfl, hn⟩
  have HN := Lib.hid (HN.out.trans hn)
  have HB := Lib.hid (HB.out.fr hn (fun h => h))
  clear hn d0 d1 d2 d3 d4 d5 d6 d7 d8 d9 d10 d11 d12 d13 d14 d15
  obtain ⟨d0, d1, d2, d3, d4, d5, d6, d7, d8, d9, d10, d11, d12, d13, d14, d15⟩ := HB.out.sixteen
  go_wp2_with fail
  rw [rounds_succ]
  go_wp2_with fail
  refine (ROf_k c.m1 0 (by first | exact HC1.out | rfl) _).mono ?_
  rintro e w2 ⟨rfl, hn⟩
  have HN := Lib.hid (HN.out.trans hn)
  have HB := Lib.hid (HB.out.fr hn (fun h => h))
  clear hn d0 d1 d2 d3 d4 d5 d6 d7 d8 d9 d10 d11 d12 d13 d14 d15
  obtain ⟨d0, d1, d2, d3, d4, d5, d6, d7, d8, d9, d10, d11, d12, d13, d14, d15⟩ := HB.out.sixteen
  go_wp2_with fail
  rw [rounds_succ]
  go_wp2_with fail
  refine (ROf_k c.m2 (ofI c.m2) (by first | exact HC2.out | rfl) _).mono ?_
  rintro e w3 ⟨rfl, hn⟩
  have HN := Lib.hid (HN.out.trans hn)
  have HB := Lib.hid (HB.out.fr hn (fun h => h))
  clear hn d0 d1 d2 d3 d4 d5 d6 d7 d8 d9 d10 d11 d12 d13 d14 d15
  obtain ⟨d0, d1, d2, d3, d4, d5, d6, d7, d8, d9, d10, d11, d12, d13, d14, d15⟩ := HB.out.sixteen
  go_wp2_with fail
  go_ret2
  exact ⟨⟨_, rfl, fun h => HK.out (HO.out.trans h)⟩, HN.out⟩

set_option maxHeartbeats 1600000 in
theorem marks_nnn (c : Ce) (h0 : c.m0 ≠ 0) (q0 : ofI c.m0 = 0) (h1 : c.m1 ≠ 0) (q1 : ofI c.m1 = 0) (h2 : c.m2 ≠ 0) (q2 : ofI c.m2 = 0) (w : World) : MarksSaid c w := by
  have ho : okM c = true := by simp [okM, h0, q0, h1, q1, h2, q2]
  have hk : okM c = true → (3 : Int) = (nM c : Int) := by simp [okM, nM, h0, q0, h1, q1, h2, q2]
  have HO := Lib.hid ho
  have HK := Lib.hid hk
  unfold MarksSaid
  rw [ho]
  clear ho hk
  have j0 : (c.m0 == 0) = false := by simpa using h0
  have j0' : (c.m0 != 0) = true := by simpa using h0
  clear h0
  have HC0 := Lib.hid q0
  clear q0
  have j1 : (c.m1 == 0) = false := by simpa using h1
  have j1' : (c.m1 != 0) = true := by simpa using h1
  clear h1
  have HC1 := Lib.hid q1
  clear q1
  have j2 : (c.m2 == 0) = false := by simpa using h2
  have j2' : (c.m2 != 0) = true := by simpa using h2
  clear h2
  have HC2 := Lib.hid q2
  clear q2
  go_enter Tryd.func83, Tryd.ntmps83
  go_wp2_with fail
  have HN : Hid (New w (w.alloc (.cells c.cs 95))) := Lib.hid (New.alloc _)
  have HB := Lib.hid (Blk.new w 95 c.cs)
  generalize w.alloc (.cells c.cs 95) = W at *
  generalize w.heap.size = g at *
  obtain ⟨d0, d1, d2, d3, d4, d5, d6, d7, d8, d9, d10, d11, d12, d13, d14, d15⟩ := HB.out.sixteen
  refine wp_loop_rounds 5 ?_
  rw [rounds_succ]
  go_wp2_with fail
  refine (ROf_k c.m0 0 (by first | exact HC0.out | rfl) _).mono ?_
  rintro e w1 ⟨rfl, hn⟩
  have HN := Lib.hid (HN.out.trans hn)
  have HB := Lib.hid (HB.out.fr hn (fun h => h))
  clear hn d0 d1 d2 d3 d4 d5 d6 d7 d8 d9 d10 d11 d12 d13 d14 d15
  obtain ⟨d0, d1, d2, d3, d4, d5, d6, d7, d8, d9, d10, d11, d12, d13, d14, d15⟩ := HB.out.sixteen
  go_wp2_with fail
  rw [rounds_succ]
  go_wp2_with fail
  refine (ROf_k c.m1 0 (by first | exact HC1.out | rfl) _).mono ?_
  rintro e w2 ⟨rfl, hn⟩
  have HN := Lib.hid (HN.out.trans hn)
  have HB := Lib.hid (HB.out.fr hn (fun h => h))
  clear hn d0 d1 d2 d3 d4 d5 d6 d7 d8 d9 d10 d11 d12 d13 d14 d15
  obtain ⟨d0, d1, d2, d3, d4, d5, d6, d7, d8, d9, d10, d11, d12, d13, d14, d15⟩ := HB.out.sixteen
  go_wp2_with fail
  rw [rounds_succ]
  go_wp2_with fail
  refine (ROf_k c.m2 0 (by first | exact HC2.out | rfl) _).mono ?_
  rintro e w3 ⟨rfl, hn⟩
  have HN := Lib.hid (HN.out.trans hn)
  have HB := Lib.hid (HB.out.fr hn (fun h => h))
  clear hn d0 d1 d2 d3 d4 d5 d6 d7 d8 d9 d10 d11 d12 d13 d14 d15
  obtain ⟨d0, d1, d2, d3, d4, d5, d6, d7, d8, d9, d10, d11, d12, d13, d14, d15⟩ := HB.out.sixteen
  go_wp2_with fail
  rw [rounds_succ]
  go_wp2_with fail
  refine wp_loop_rounds 5 ?_
  rw [rounds_succ]
  go_wp2_with fail
  go_ret2
  exact ⟨⟨_, rfl, fun _ => HK.out HO.out⟩, HN.out⟩

theorem RMarksC_any (c : Ce) (w : World) : MarksSaid c w := by
  by_cases h0 : c.m0 = 0
  · by_cases h1 : c.m1 = 0
    · by_cases h2 : c.m2 = 0
      · exact marks_zzz c h0 h1 h2 w
      · exact marks_zzx c h0 h1 h2 w
    · exact marks_zx c h0 h1 w
  · by_cases q0 : ofI c.m0 = 0
    · by_cases h1 : c.m1 = 0
      · by_cases h2 : c.m2 = 0
        · exact marks_nzz c h0 q0 h1 h2 w
        · exact marks_nzx c h0 q0 h1 h2 w
      · by_cases q1 : ofI c.m1 = 0
        · by_cases h2 : c.m2 = 0
          · exact marks_nnz c h0 q0 h1 q1 h2 w
          · by_cases q2 : ofI c.m2 = 0
            · exact marks_nnn c h0 q0 h1 q1 h2 q2 w
            · exact marks_nnb c h0 q0 h1 q1 h2 q2 w
        · exact marks_nb c h0 q0 h1 q1 w
    · exact marks_b c h0 q0 w

end Go.Proofs.YtlpjhaghphmbeaaDoor
