/-
  Which cells are valid: package cell.
-/
import Derived.Test.YtaiijndldngnkaaDoorDSmall
import Derived.Test.YtaiijndldngnkaaDoorDMarks
import Derived.Test.YtaiijndldngnkaaDoorGReg
namespace Go.Proofs.YtaiijndldngnkaaDoor
open Go.RowKit

theorem gdM : Tryd.prog.eqGuardType Tryd.prog.depth 22 = false := by kernel_rfl
theorem Tab.drew {w : World} (h : Tab w) : Tab w.drew := h.new (Fr.drew (Fr.refl _ _))
theorem Tab.drewN {w : World} (h : Tab w) (k : Nat) : Tab (w.drewN k) := h.new (Fr.drewN (Fr.refl _ _) k)
def noM (c : Ce) : Bool := c.m0 == 0 && c.m1 == 0 && c.m2 == 0
theorem cellB_bad {c : Ce} (h : validB c.p = false) : cellB c = false := by simp [cellB, h]
theorem cellB_zero {c : Ce} (h : validB c.p = true) (hr : c.r = 0) : cellB c = ((c.wd == 0 || c.wd == 1) && noM c) := by
  have hn : (okM c && decide (nM c = 0)) = noM c := by
    unfold okM nM noM
    by_cases a : c.m0 = 0
    · by_cases b : c.m1 = 0 <;> by_cases d : c.m2 = 0 <;> simp [a, b, d]
    · simp only [a, if_false]
      have : ¬ (if c.m1 = 0 then 1 else if c.m2 = 0 then 2 else 3) = 0 := by
        split
        · omega
        · split <;> omega
      simp [a, this]
  unfold cellB
  rw [h, hr, of_zero, ← hn]
  by_cases w0 : c.wd = 0
  · simp [w0]
  · by_cases w1 : c.wd = 1
    · simp [w1]
    · by_cases w2 : c.wd = 2
      · simp [w2]
      · simp [w0, w1, w2]
theorem cellB_wr {c : Ce} (h : validB c.p = true) (hr : c.r ≠ 0) : cellB c = ((c.wd == 1 || c.wd == 2) && (decide (c.wd = ofI c.r) && okM c)) := by
  unfold cellB
  rw [h]
  by_cases w0 : c.wd = 0
  · simp [w0, hr]
  · by_cases w1 : c.wd = 1
    · simp [w1, hr, eq_comm, Bool.and_comm]
    · by_cases w2 : c.wd = 2
      · simp [w2, eq_comm, Bool.and_comm]
      · simp [w0, w1, w2]
abbrev CValidSaid (c : Ce) (b : Bool) (w : World) : Prop := Calls Tryd.prog 39 #[c.v] w fun e w' => e = .returned (.bool b) ∧ New w w'
theorem PVK (p : Pn) (b : Bool) (h : validB p = b) (w : World) : Calls Tryd.prog 51 #[p.v] w fun e w' => e = .returned (.bool b) ∧ New w w' := by
  subst h
  exact Valid_any p w

set_option maxHeartbeats 3200000 in
theorem cv_pen (c : Ce) (hpv : validB c.p = false) (w : World) : CValidSaid c false w := by
  have C1 := fun w => PVK c.p false hpv w
  clear hpv
  go_enter Tryd.func39, Tryd.ntmps39
  go_wp2_with fail
  have HN : Hid (New w (w.alloc (.cells c.cs 30))) := Lib.hid (New.alloc _)
  have HB := Lib.hid (Blk.new w 30 c.cs)
  generalize w.alloc (.cells c.cs 30) = W at *
  generalize w.heap.size = g at *
  refine (C1 _).mono ?_
  rintro e w1 ⟨rfl, hn⟩
  have HN := Lib.hid (HN.out.trans hn)
  have HB := Lib.hid (HB.out.fr hn (fun h => h))
  clear hn
  obtain ⟨d0, d1, d2, d3, d4, d5, d6, d7, d8, d9, d10, d11, d12, d13, d14, d15⟩ := HB.out.sixteen
  go_wp2_with fail
  go_ret
  exact ⟨rfl, HN.out⟩

set_option maxHeartbeats 3200000 in
theorem cv_z0 (c : Ce) (hpv : validB c.p = true) (hr : c.r = 0) (h0 : c.wd = 0) (w : World) : CValidSaid c (noM c) w := by
  have C1 := fun w => PVK c.p true hpv w
  have jr : (c.r != 0) = false := by simpa using hr
  have C2 := fun w => WrittenK c false jr w
  have j0 : (c.wd == 0) = true := by simpa using h0
  have heq : ∀ w, (Op.equalIn 10000 22 (.agg #[.int .i32 c.m0, .int .i32 c.m1, .int .i32 c.m2]) (.agg #[.int .i32 0, .int .i32 0, .int .i32 0])).run Tryd.prog w = .ok (noM c) w := fun w => eq_marks 9998 _ _ _ 0 0 0 w
  have gd := gdM
  clear hpv hr h0 jr
  go_enter Tryd.func39, Tryd.ntmps39
  go_wp2_with fail
  have HN : Hid (New w (w.alloc (.cells c.cs 30))) := Lib.hid (New.alloc _)
  have HB := Lib.hid (Blk.new w 30 c.cs)
  generalize w.alloc (.cells c.cs 30) = W at *
  generalize w.heap.size = g at *
  refine (C1 _).mono ?_
  rintro e w1 ⟨rfl, hn⟩
  have HN := Lib.hid (HN.out.trans hn)
  have HB := Lib.hid (HB.out.fr hn (fun h => h))
  clear hn
  obtain ⟨d0, d1, d2, d3, d4, d5, d6, d7, d8, d9, d10, d11, d12, d13, d14, d15⟩ := HB.out.sixteen
  go_wp2_with fail
  refine (C2 _).mono ?_
  rintro e w1 ⟨rfl, hn⟩
  have HN := Lib.hid (HN.out.trans hn)
  have HB := Lib.hid (HB.out.fr hn (fun h => h))
  clear hn d0 d1 d2 d3 d4 d5 d6 d7 d8 d9 d10 d11 d12 d13 d14 d15
  obtain ⟨d0, d1, d2, d3, d4, d5, d6, d7, d8, d9, d10, d11, d12, d13, d14, d15⟩ := HB.out.sixteen
  go_wp2_with fail
  go_ret
  exact ⟨rfl, HN.out⟩

set_option maxHeartbeats 3200000 in
theorem cv_z1 (c : Ce) (hpv : validB c.p = true) (hr : c.r = 0) (h0 : c.wd ≠ 0) (h1 : c.wd = 1) (w : World) : CValidSaid c (noM c) w := by
  have C1 := fun w => PVK c.p true hpv w
  have jr : (c.r != 0) = false := by simpa using hr
  have C2 := fun w => WrittenK c false jr w
  have j0 : (c.wd == 0) = false := by simpa using h0
  have j1 : (c.wd == 1) = true := by simpa using h1
  have heq : ∀ w, (Op.equalIn 10000 22 (.agg #[.int .i32 c.m0, .int .i32 c.m1, .int .i32 c.m2]) (.agg #[.int .i32 0, .int .i32 0, .int .i32 0])).run Tryd.prog w = .ok (noM c) w := fun w => eq_marks 9998 _ _ _ 0 0 0 w
  have gd := gdM
  clear hpv hr h0 h1 jr
  go_enter Tryd.func39, Tryd.ntmps39
  go_wp2_with fail
  have HN : Hid (New w (w.alloc (.cells c.cs 30))) := Lib.hid (New.alloc _)
  have HB := Lib.hid (Blk.new w 30 c.cs)
  generalize w.alloc (.cells c.cs 30) = W at *
  generalize w.heap.size = g at *
  refine (C1 _).mono ?_
  rintro e w1 ⟨rfl, hn⟩
  have HN := Lib.hid (HN.out.trans hn)
  have HB := Lib.hid (HB.out.fr hn (fun h => h))
  clear hn
  obtain ⟨d0, d1, d2, d3, d4, d5, d6, d7, d8, d9, d10, d11, d12, d13, d14, d15⟩ := HB.out.sixteen
  go_wp2_with fail
  refine (C2 _).mono ?_
  rintro e w1 ⟨rfl, hn⟩
  have HN := Lib.hid (HN.out.trans hn)
  have HB := Lib.hid (HB.out.fr hn (fun h => h))
  clear hn d0 d1 d2 d3 d4 d5 d6 d7 d8 d9 d10 d11 d12 d13 d14 d15
  obtain ⟨d0, d1, d2, d3, d4, d5, d6, d7, d8, d9, d10, d11, d12, d13, d14, d15⟩ := HB.out.sixteen
  go_wp2_with fail
  go_ret
  exact ⟨rfl, HN.out⟩

set_option maxHeartbeats 3200000 in
theorem cv_z2 (c : Ce) (hpv : validB c.p = true) (hr : c.r = 0) (h0 : c.wd ≠ 0) (h1 : c.wd ≠ 1) (w : World) : CValidSaid c false w := by
  have C1 := fun w => PVK c.p true hpv w
  have jr : (c.r != 0) = false := by simpa using hr
  have C2 := fun w => WrittenK c false jr w
  have j0 : (c.wd == 0) = false := by simpa using h0
  have j1 : (c.wd == 1) = false := by simpa using h1
  clear hpv hr h0 h1 jr
  go_enter Tryd.func39, Tryd.ntmps39
  go_wp2_with fail
  have HN : Hid (New w (w.alloc (.cells c.cs 30))) := Lib.hid (New.alloc _)
  have HB := Lib.hid (Blk.new w 30 c.cs)
  generalize w.alloc (.cells c.cs 30) = W at *
  generalize w.heap.size = g at *
  refine (C1 _).mono ?_
  rintro e w1 ⟨rfl, hn⟩
  have HN := Lib.hid (HN.out.trans hn)
  have HB := Lib.hid (HB.out.fr hn (fun h => h))
  clear hn
  obtain ⟨d0, d1, d2, d3, d4, d5, d6, d7, d8, d9, d10, d11, d12, d13, d14, d15⟩ := HB.out.sixteen
  go_wp2_with fail
  refine (C2 _).mono ?_
  rintro e w1 ⟨rfl, hn⟩
  have HN := Lib.hid (HN.out.trans hn)
  have HB := Lib.hid (HB.out.fr hn (fun h => h))
  clear hn d0 d1 d2 d3 d4 d5 d6 d7 d8 d9 d10 d11 d12 d13 d14 d15
  obtain ⟨d0, d1, d2, d3, d4, d5, d6, d7, d8, d9, d10, d11, d12, d13, d14, d15⟩ := HB.out.sixteen
  go_wp2_with fail
  go_ret
  exact ⟨rfl, HN.out⟩

set_option maxHeartbeats 3200000 in
theorem cv_w3 (c : Ce) (hpv : validB c.p = true) (hr : c.r ≠ 0) (h1 : c.wd ≠ 1) (h2 : c.wd ≠ 2) (w : World) : CValidSaid c false w := by
  have C1 := fun w => PVK c.p true hpv w
  have jr : (c.r != 0) = true := by simpa using hr
  have C2 := fun w => WrittenK c true jr w
  have j1 : (c.wd == 1) = false := by simpa using h1
  have j2 : (c.wd == 2) = false := by simpa using h2
  clear hpv hr h1 h2 jr
  go_enter Tryd.func39, Tryd.ntmps39
  go_wp2_with fail
  have HN : Hid (New w (w.alloc (.cells c.cs 30))) := Lib.hid (New.alloc _)
  have HB := Lib.hid (Blk.new w 30 c.cs)
  generalize w.alloc (.cells c.cs 30) = W at *
  generalize w.heap.size = g at *
  refine (C1 _).mono ?_
  rintro e w1 ⟨rfl, hn⟩
  have HN := Lib.hid (HN.out.trans hn)
  have HB := Lib.hid (HB.out.fr hn (fun h => h))
  clear hn
  obtain ⟨d0, d1, d2, d3, d4, d5, d6, d7, d8, d9, d10, d11, d12, d13, d14, d15⟩ := HB.out.sixteen
  go_wp2_with fail
  refine (C2 _).mono ?_
  rintro e w1 ⟨rfl, hn⟩
  have HN := Lib.hid (HN.out.trans hn)
  have HB := Lib.hid (HB.out.fr hn (fun h => h))
  clear hn d0 d1 d2 d3 d4 d5 d6 d7 d8 d9 d10 d11 d12 d13 d14 d15
  obtain ⟨d0, d1, d2, d3, d4, d5, d6, d7, d8, d9, d10, d11, d12, d13, d14, d15⟩ := HB.out.sixteen
  go_wp2_with fail
  go_quiet (fail)
  go_wp2_with fail
  go_ret
  exact ⟨rfl, HN.out.drewN _⟩

set_option maxHeartbeats 3200000 in
theorem cv_w1_m (r m0 m1 m2 : Int) (p : Pn) (hpv : validB p = true) (hr : r ≠ 0) (hq : ofI r = (-1)) (w : World) (hT : Tab w) : CValidSaid (Ce.mk r m0 m1 m2 1 p) false w := by
  have C1 := fun w => PVK p true hpv w
  have jr : (r != 0) = true := by simpa using hr
  have C2 := fun w => WrittenK (Ce.mk r m0 m1 m2 1 p) true jr w
  have C3 := fun w hT => OfK r (-1) hq w hT
  have HT := Lib.hid hT
  clear hpv hr jr hq hT
  go_enter Tryd.func39, Tryd.ntmps39
  go_wp2_with fail
  have HN : Hid (New w (w.alloc (.cells (Ce.mk r m0 m1 m2 1 p).cs 30))) := Lib.hid (New.alloc _)
  have HB := Lib.hid (Blk.new w 30 (Ce.mk r m0 m1 m2 1 p).cs)
  generalize w.alloc (.cells (Ce.mk r m0 m1 m2 1 p).cs 30) = W at *
  generalize w.heap.size = g at *
  refine (C1 _).mono ?_
  rintro e w1 ⟨rfl, hn⟩
  have HN := Lib.hid (HN.out.trans hn)
  have HB := Lib.hid (HB.out.fr hn (fun h => h))
  clear hn
  obtain ⟨d0, d1, d2, d3, d4, d5, d6, d7, d8, d9, d10, d11, d12, d13, d14, d15⟩ := HB.out.sixteen
  go_wp2_with fail
  refine (C2 _).mono ?_
  rintro e w1 ⟨rfl, hn⟩
  have HN := Lib.hid (HN.out.trans hn)
  have HB := Lib.hid (HB.out.fr hn (fun h => h))
  clear hn d0 d1 d2 d3 d4 d5 d6 d7 d8 d9 d10 d11 d12 d13 d14 d15
  obtain ⟨d0, d1, d2, d3, d4, d5, d6, d7, d8, d9, d10, d11, d12, d13, d14, d15⟩ := HB.out.sixteen
  go_wp2_with fail
  clear d0 d1 d2 d3 d4 d5 d6 d7 d8 d9 d10 d11 d12 d13 d14 d15
  refine wp_region_held_drew (S := (fun w' => w'.cell? ⟨g, 0, none⟩ = some (.int .i32 r) ∧ w'.cell? ⟨g, 1, none⟩ = some (.int .i32 m0) ∧ w'.cell? ⟨g, 2, none⟩ = some (.int .i32 m1) ∧ w'.cell? ⟨g, 3, none⟩ = some (.int .i32 m2) ∧ w'.cell? ⟨g, 4, none⟩ = some (.int .i64 1) ∧ w'.cell? ⟨g, 5, none⟩ = some (.int .i64 p.fore.k) ∧ w'.cell? ⟨g, 6, none⟩ = some (.int .u8 p.fore.i) ∧ w'.cell? ⟨g, 7, none⟩ = some (.int .u8 p.fore.r) ∧ w'.cell? ⟨g, 8, none⟩ = some (.int .u8 p.fore.g) ∧ w'.cell? ⟨g, 9, none⟩ = some (.int .u8 p.fore.b) ∧ w'.cell? ⟨g, 10, none⟩ = some (.int .i64 p.back.k) ∧ w'.cell? ⟨g, 11, none⟩ = some (.int .u8 p.back.i) ∧ w'.cell? ⟨g, 12, none⟩ = some (.int .u8 p.back.r) ∧ w'.cell? ⟨g, 13, none⟩ = some (.int .u8 p.back.g) ∧ w'.cell? ⟨g, 14, none⟩ = some (.int .u8 p.back.b) ∧ w'.cell? ⟨g, 15, none⟩ = some (.int .u8 p.fl))) (by kernel_rfl) ?_ (fun hHeld => ?_)
  · exact HB.out.sixteen
  refine wpAnyH_take (fuel := 21) (i := 0) (v := ?_) rfl (by kernel_rfl) (by kernel_rfl) (by kernel_rfl) (fun _ _ _ h => h) (Or.inl ⟨by rfl, ?_⟩) (by assumption) ?_
  rotate_left
  · (intro w hSw; (try dsimp only at hSw); go_simp; first | done | with_reducible rfl)
  change wpAnyH _ _ _ _ _ 21 _ (Act.put _ (some 24) _) _
  simp only [Act.put, List.setIfInBounds_toArray, List.set_cons_zero, List.set_cons_succ]
  refine wpAnyH_take (fuel := 20) (i := 1) (v := ?_) rfl (by kernel_rfl) (by kernel_rfl) (by kernel_rfl) (fun _ _ _ h => h) (Or.inl ⟨by rfl, ?_⟩) (by assumption) ?_
  rotate_left
  · (intro w hSw; (try dsimp only at hSw); go_simp; first | done | with_reducible rfl)
  change wpAnyH _ _ _ _ _ 20 _ (Act.put _ (some 25) _) _
  simp only [Act.put, List.setIfInBounds_toArray, List.set_cons_zero, List.set_cons_succ]
  refine wpAnyH_take (fuel := 19) (i := 2) (v := ?_) rfl (by kernel_rfl) (by kernel_rfl) (by kernel_rfl) (fun _ _ _ h => h) (Or.inl ⟨by rfl, ?_⟩) (by assumption) ?_
  rotate_left
  · (intro w hSw; (try dsimp only at hSw); go_simp; first | done | with_reducible rfl)
  change wpAnyH _ _ _ _ _ 19 _ (Act.put _ (some 26) _) _
  simp only [Act.put, List.setIfInBounds_toArray, List.set_cons_zero, List.set_cons_succ]
  refine wpAnyH_take (fuel := 18) (i := 3) (v := ?_) rfl (by kernel_rfl) (by kernel_rfl) (by kernel_rfl) (fun _ _ _ h => h) (Or.inl ⟨by rfl, ?_⟩) (by assumption) ?_
  rotate_left
  · (intro w hSw; (try dsimp only at hSw); go_simp; first | done | with_reducible rfl)
  change wpAnyH _ _ _ _ _ 18 _ (Act.put _ (some 27) _) _
  simp only [Act.put, List.setIfInBounds_toArray, List.set_cons_zero, List.set_cons_succ]
  refine wpAnyH_take (fuel := 17) (i := 4) (v := undef) rfl (by kernel_rfl) (by kernel_rfl) (by kernel_rfl) (fun _ _ _ h => h) (Or.inr ⟨by rfl, rfl⟩) (by assumption) ?_
  change wpAnyH _ _ _ _ _ 17 _ (Act.put _ (some 28) _) _
  simp only [Act.put, List.setIfInBounds_toArray, List.set_cons_zero, List.set_cons_succ]
  refine wpAnyH_take (fuel := 16) (i := 5) (v := undef) rfl (by kernel_rfl) (by kernel_rfl) (by kernel_rfl) (fun _ _ _ h => h) (Or.inr ⟨by rfl, rfl⟩) (by assumption) ?_
  change wpAnyH _ _ _ _ _ 16 _ (Act.put _ (some 29) _) _
  simp only [Act.put, List.setIfInBounds_toArray, List.set_cons_zero, List.set_cons_succ]
  refine wpAnyH_take (fuel := 15) (i := 6) (v := undef) rfl (by kernel_rfl) (by kernel_rfl) (by kernel_rfl) (fun _ _ _ h => h) (Or.inr ⟨by rfl, rfl⟩) (by assumption) ?_
  change wpAnyH _ _ _ _ _ 15 _ (Act.put _ (some 30) _) _
  simp only [Act.put, List.setIfInBounds_toArray, List.set_cons_zero, List.set_cons_succ]
  refine wpAnyH_take (fuel := 14) (i := 7) (v := ?_) rfl (by kernel_rfl) (by kernel_rfl) (by kernel_rfl) (fun _ _ _ h => h) (Or.inl ⟨by rfl, ?_⟩) (by assumption) ?_
  rotate_left
  · (intro w hSw; (try dsimp only at hSw); go_simp; first | done | with_reducible rfl)
  change wpAnyH _ _ _ _ _ 14 _ (Act.put _ (some 31) _) _
  simp only [Act.put, List.setIfInBounds_toArray, List.set_cons_zero, List.set_cons_succ]
  refine wpAnyH_take (fuel := 13) (i := 8) (v := ?_) rfl (by kernel_rfl) (by kernel_rfl) (by kernel_rfl) (fun _ _ _ h => h) (Or.inl ⟨by rfl, ?_⟩) (by assumption) ?_
  rotate_left
  · (intro w hSw; (try dsimp only at hSw); go_simp; first | done | with_reducible rfl)
  change wpAnyH _ _ _ _ _ 13 _ (Act.put _ (some 32) _) _
  simp only [Act.put, List.setIfInBounds_toArray, List.set_cons_zero, List.set_cons_succ]
  refine wpAnyH_take (fuel := 12) (i := 9) (v := ?_) rfl (by kernel_rfl) (by kernel_rfl) (by kernel_rfl) (fun _ _ _ h => h) (Or.inl ⟨by rfl, ?_⟩) (by assumption) ?_
  rotate_left
  · (intro w hSw; (try dsimp only at hSw); go_simp; first | done | with_reducible rfl)
  change wpAnyH _ _ _ _ _ 12 _ (Act.put _ (some 33) _) _
  simp only [Act.put, List.setIfInBounds_toArray, List.set_cons_zero, List.set_cons_succ]
  refine wpAnyH_take (fuel := 11) (i := 10) (v := ?_) rfl (by kernel_rfl) (by kernel_rfl) (by kernel_rfl) (fun _ _ _ h => h) (Or.inl ⟨by rfl, ?_⟩) (by assumption) ?_
  rotate_left
  · (intro w hSw; (try dsimp only at hSw); go_simp; first | done | with_reducible rfl)
  change wpAnyH _ _ _ _ _ 11 _ (Act.put _ (some 34) _) _
  simp only [Act.put, List.setIfInBounds_toArray, List.set_cons_zero, List.set_cons_succ]
  refine wpAnyH_take (fuel := 10) (i := 11) (v := ?_) rfl (by kernel_rfl) (by kernel_rfl) (by kernel_rfl) (fun _ _ _ h => h) (Or.inl ⟨by rfl, ?_⟩) (by assumption) ?_
  rotate_left
  · (intro w hSw; (try dsimp only at hSw); go_simp; first | done | with_reducible rfl)
  change wpAnyH _ _ _ _ _ 10 _ (Act.put _ (some 35) _) _
  simp only [Act.put, List.setIfInBounds_toArray, List.set_cons_zero, List.set_cons_succ]
  refine wpAnyH_take (fuel := 9) (i := 12) (v := ?_) rfl (by kernel_rfl) (by kernel_rfl) (by kernel_rfl) (fun _ _ _ h => h) (Or.inl ⟨by rfl, ?_⟩) (by assumption) ?_
  rotate_left
  · (intro w hSw; (try dsimp only at hSw); go_simp; first | done | with_reducible rfl)
  change wpAnyH _ _ _ _ _ 9 _ (Act.put _ (some 36) _) _
  simp only [Act.put, List.setIfInBounds_toArray, List.set_cons_zero, List.set_cons_succ]
  refine allH (fuel := 8) (i := 13) (by kernel_rfl) rfl (by rfl) ?_
  intro K hK
  refine wp_callF (f := 53) Tryd.func53 (by kernel_rfl) rfl rfl (vs := #[.int .i32 r]) (by simp only [List.map_toArray, List.map_cons, List.map_nil]; rfl) ?_
  refine (C3 _ (HT.out.new HN.out).drew).mono ?_
  rintro e w2 ⟨rfl, hn⟩
  refine ⟨_, rfl, hK _ _ ((HB.out.drew.fr hn (fun h => h)).sixteen) ?_⟩
  clear hK K hHeld
  have hHeld := (HB.out.drew.fr hn (fun h => h)).sixteen
  have HB := Lib.hid (HB.out.drew.fr hn (fun h => h))
  have HN := Lib.hid (HN.out.trans hn.of_drew)
  clear hn
  change wpAnyH _ _ _ _ _ 8 _ (Act.put _ (some 37) _) _
  simp only [Act.put, List.setIfInBounds_toArray, List.set_cons_zero, List.set_cons_succ]
  refine wpAnyH_take (fuel := 7) (i := 14) (v := ?_) rfl (by kernel_rfl) (by kernel_rfl) (by kernel_rfl) (fun _ _ _ h => h) (Or.inl ⟨by rfl, ?_⟩) (by assumption) ?_
  rotate_left
  · (intro w hSw; (try dsimp only at hSw); go_simp; first | done | with_reducible rfl)
  change wpAnyH _ _ _ _ _ 7 _ (Act.put _ (some 38) _) _
  simp only [Act.put, List.setIfInBounds_toArray, List.set_cons_zero, List.set_cons_succ]
  refine wpAnyH_take (fuel := 6) (i := 15) (v := ?_) rfl (by kernel_rfl) (by kernel_rfl) (by kernel_rfl) (fun _ _ _ h => h) (Or.inl ⟨by rfl, ?_⟩) (by assumption) ?_
  rotate_left
  · (intro w hSw; (try dsimp only at hSw); go_simp; first | done | with_reducible rfl)
  change wpAnyH _ _ _ _ _ 6 _ (Act.put _ (some 39) _) _
  simp only [Act.put, List.setIfInBounds_toArray, List.set_cons_zero, List.set_cons_succ]
  refine wpAnyH_take (fuel := 5) (i := 16) (v := ?_) rfl (by kernel_rfl) (by kernel_rfl) (by kernel_rfl) (fun _ _ _ h => h) (Or.inl ⟨by rfl, ?_⟩) (by assumption) ?_
  rotate_left
  · (intro w hSw; (try dsimp only at hSw); go_simp; first | done | with_reducible rfl)
  change wpAnyH _ _ _ _ _ 5 _ (Act.put _ (some 40) _) _
  simp only [Act.put, List.setIfInBounds_toArray, List.set_cons_zero, List.set_cons_succ]
  refine wpAnyH_take (fuel := 4) (i := 17) (v := undef) rfl (by kernel_rfl) (by kernel_rfl) (by kernel_rfl) (fun _ _ _ h => h) (Or.inr ⟨by rfl, rfl⟩) (by assumption) ?_
  change wpAnyH _ _ _ _ _ 4 _ (Act.put _ (some 41) _) _
  simp only [Act.put, List.setIfInBounds_toArray, List.set_cons_zero, List.set_cons_succ]
  refine wpAnyH_take (fuel := 3) (i := 18) (v := undef) rfl (by kernel_rfl) (by kernel_rfl) (by kernel_rfl) (fun _ _ _ h => h) (Or.inr ⟨by rfl, rfl⟩) (by assumption) ?_
  change wpAnyH _ _ _ _ _ 3 _ (Act.put _ (some 42) _) _
  simp only [Act.put, List.setIfInBounds_toArray, List.set_cons_zero, List.set_cons_succ]
  refine wpAnyH_take (fuel := 2) (i := 19) (v := undef) rfl (by kernel_rfl) (by kernel_rfl) (by kernel_rfl) (fun _ _ _ h => h) (Or.inr ⟨by rfl, rfl⟩) (by assumption) ?_
  change wpAnyH _ _ _ _ _ 2 _ (Act.put _ (some 43) _) _
  simp only [Act.put, List.setIfInBounds_toArray, List.set_cons_zero, List.set_cons_succ]
  refine wpAnyH_take (fuel := 1) (i := 20) (v := ?_) rfl (by kernel_rfl) (by kernel_rfl) (by kernel_rfl) (fun _ _ _ h => h) (Or.inl ⟨by rfl, ?_⟩) (by assumption) ?_
  rotate_left
  · (intro w hSw; (try dsimp only at hSw); go_simp; first | done | with_reducible rfl)
  change wpAnyH _ _ _ _ _ 1 _ (Act.put _ (some 44) _) _
  simp only [Act.put, List.setIfInBounds_toArray, List.set_cons_zero, List.set_cons_succ]
  refine wpAnyH_take (fuel := 0) (i := 21) (v := ?_) rfl (by kernel_rfl) (by kernel_rfl) (by kernel_rfl) (fun _ _ _ h => h) (Or.inl ⟨by rfl, ?_⟩) (by assumption) ?_
  rotate_left
  · (intro w hSw; (try dsimp only at hSw); go_simp; first | done | with_reducible rfl)
  change wpAnyH _ _ _ _ _ 0 _ (Act.put _ (some 2) _) _
  simp only [Act.put, List.setIfInBounds_toArray, List.set_cons_zero, List.set_cons_succ]
  refine wpAnyH_done (by kernel_rfl) ?_ _
  go_wp2_with fail
  go_ret
  exact ⟨rfl, HN.out⟩

set_option maxHeartbeats 3200000 in
theorem cv_w1_0 (r m0 m1 m2 : Int) (p : Pn) (hpv : validB p = true) (hr : r ≠ 0) (hq : ofI r = (0)) (w : World) (hT : Tab w) : CValidSaid (Ce.mk r m0 m1 m2 1 p) false w := by
  have C1 := fun w => PVK p true hpv w
  have jr : (r != 0) = true := by simpa using hr
  have C2 := fun w => WrittenK (Ce.mk r m0 m1 m2 1 p) true jr w
  have C3 := fun w hT => OfK r (0) hq w hT
  have HT := Lib.hid hT
  clear hpv hr jr hq hT
  go_enter Tryd.func39, Tryd.ntmps39
  go_wp2_with fail
  have HN : Hid (New w (w.alloc (.cells (Ce.mk r m0 m1 m2 1 p).cs 30))) := Lib.hid (New.alloc _)
  have HB := Lib.hid (Blk.new w 30 (Ce.mk r m0 m1 m2 1 p).cs)
  generalize w.alloc (.cells (Ce.mk r m0 m1 m2 1 p).cs 30) = W at *
  generalize w.heap.size = g at *
  refine (C1 _).mono ?_
  rintro e w1 ⟨rfl, hn⟩
  have HN := Lib.hid (HN.out.trans hn)
  have HB := Lib.hid (HB.out.fr hn (fun h => h))
  clear hn
  obtain ⟨d0, d1, d2, d3, d4, d5, d6, d7, d8, d9, d10, d11, d12, d13, d14, d15⟩ := HB.out.sixteen
  go_wp2_with fail
  refine (C2 _).mono ?_
  rintro e w1 ⟨rfl, hn⟩
  have HN := Lib.hid (HN.out.trans hn)
  have HB := Lib.hid (HB.out.fr hn (fun h => h))
  clear hn d0 d1 d2 d3 d4 d5 d6 d7 d8 d9 d10 d11 d12 d13 d14 d15
  obtain ⟨d0, d1, d2, d3, d4, d5, d6, d7, d8, d9, d10, d11, d12, d13, d14, d15⟩ := HB.out.sixteen
  go_wp2_with fail
  clear d0 d1 d2 d3 d4 d5 d6 d7 d8 d9 d10 d11 d12 d13 d14 d15
  refine wp_region_held_drew (S := (fun w' => w'.cell? ⟨g, 0, none⟩ = some (.int .i32 r) ∧ w'.cell? ⟨g, 1, none⟩ = some (.int .i32 m0) ∧ w'.cell? ⟨g, 2, none⟩ = some (.int .i32 m1) ∧ w'.cell? ⟨g, 3, none⟩ = some (.int .i32 m2) ∧ w'.cell? ⟨g, 4, none⟩ = some (.int .i64 1) ∧ w'.cell? ⟨g, 5, none⟩ = some (.int .i64 p.fore.k) ∧ w'.cell? ⟨g, 6, none⟩ = some (.int .u8 p.fore.i) ∧ w'.cell? ⟨g, 7, none⟩ = some (.int .u8 p.fore.r) ∧ w'.cell? ⟨g, 8, none⟩ = some (.int .u8 p.fore.g) ∧ w'.cell? ⟨g, 9, none⟩ = some (.int .u8 p.fore.b) ∧ w'.cell? ⟨g, 10, none⟩ = some (.int .i64 p.back.k) ∧ w'.cell? ⟨g, 11, none⟩ = some (.int .u8 p.back.i) ∧ w'.cell? ⟨g, 12, none⟩ = some (.int .u8 p.back.r) ∧ w'.cell? ⟨g, 13, none⟩ = some (.int .u8 p.back.g) ∧ w'.cell? ⟨g, 14, none⟩ = some (.int .u8 p.back.b) ∧ w'.cell? ⟨g, 15, none⟩ = some (.int .u8 p.fl))) (by kernel_rfl) ?_ (fun hHeld => ?_)
  · exact HB.out.sixteen
  refine wpAnyH_take (fuel := 21) (i := 0) (v := ?_) rfl (by kernel_rfl) (by kernel_rfl) (by kernel_rfl) (fun _ _ _ h => h) (Or.inl ⟨by rfl, ?_⟩) (by assumption) ?_
  rotate_left
  · (intro w hSw; (try dsimp only at hSw); go_simp; first | done | with_reducible rfl)
  change wpAnyH _ _ _ _ _ 21 _ (Act.put _ (some 24) _) _
  simp only [Act.put, List.setIfInBounds_toArray, List.set_cons_zero, List.set_cons_succ]
  refine wpAnyH_take (fuel := 20) (i := 1) (v := ?_) rfl (by kernel_rfl) (by kernel_rfl) (by kernel_rfl) (fun _ _ _ h => h) (Or.inl ⟨by rfl, ?_⟩) (by assumption) ?_
  rotate_left
  · (intro w hSw; (try dsimp only at hSw); go_simp; first | done | with_reducible rfl)
  change wpAnyH _ _ _ _ _ 20 _ (Act.put _ (some 25) _) _
  simp only [Act.put, List.setIfInBounds_toArray, List.set_cons_zero, List.set_cons_succ]
  refine wpAnyH_take (fuel := 19) (i := 2) (v := ?_) rfl (by kernel_rfl) (by kernel_rfl) (by kernel_rfl) (fun _ _ _ h => h) (Or.inl ⟨by rfl, ?_⟩) (by assumption) ?_
  rotate_left
  · (intro w hSw; (try dsimp only at hSw); go_simp; first | done | with_reducible rfl)
  change wpAnyH _ _ _ _ _ 19 _ (Act.put _ (some 26) _) _
  simp only [Act.put, List.setIfInBounds_toArray, List.set_cons_zero, List.set_cons_succ]
  refine wpAnyH_take (fuel := 18) (i := 3) (v := ?_) rfl (by kernel_rfl) (by kernel_rfl) (by kernel_rfl) (fun _ _ _ h => h) (Or.inl ⟨by rfl, ?_⟩) (by assumption) ?_
  rotate_left
  · (intro w hSw; (try dsimp only at hSw); go_simp; first | done | with_reducible rfl)
  change wpAnyH _ _ _ _ _ 18 _ (Act.put _ (some 27) _) _
  simp only [Act.put, List.setIfInBounds_toArray, List.set_cons_zero, List.set_cons_succ]
  refine wpAnyH_take (fuel := 17) (i := 4) (v := undef) rfl (by kernel_rfl) (by kernel_rfl) (by kernel_rfl) (fun _ _ _ h => h) (Or.inr ⟨by rfl, rfl⟩) (by assumption) ?_
  change wpAnyH _ _ _ _ _ 17 _ (Act.put _ (some 28) _) _
  simp only [Act.put, List.setIfInBounds_toArray, List.set_cons_zero, List.set_cons_succ]
  refine wpAnyH_take (fuel := 16) (i := 5) (v := undef) rfl (by kernel_rfl) (by kernel_rfl) (by kernel_rfl) (fun _ _ _ h => h) (Or.inr ⟨by rfl, rfl⟩) (by assumption) ?_
  change wpAnyH _ _ _ _ _ 16 _ (Act.put _ (some 29) _) _
  simp only [Act.put, List.setIfInBounds_toArray, List.set_cons_zero, List.set_cons_succ]
  refine wpAnyH_take (fuel := 15) (i := 6) (v := undef) rfl (by kernel_rfl) (by kernel_rfl) (by kernel_rfl) (fun _ _ _ h => h) (Or.inr ⟨by rfl, rfl⟩) (by assumption) ?_
  change wpAnyH _ _ _ _ _ 15 _ (Act.put _ (some 30) _) _
  simp only [Act.put, List.setIfInBounds_toArray, List.set_cons_zero, List.set_cons_succ]
  refine wpAnyH_take (fuel := 14) (i := 7) (v := ?_) rfl (by kernel_rfl) (by kernel_rfl) (by kernel_rfl) (fun _ _ _ h => h) (Or.inl ⟨by rfl, ?_⟩) (by assumption) ?_
  rotate_left
  · (intro w hSw; (try dsimp only at hSw); go_simp; first | done | with_reducible rfl)
  change wpAnyH _ _ _ _ _ 14 _ (Act.put _ (some 31) _) _
  simp only [Act.put, List.setIfInBounds_toArray, List.set_cons_zero, List.set_cons_succ]
  refine wpAnyH_take (fuel := 13) (i := 8) (v := ?_) rfl (by kernel_rfl) (by kernel_rfl) (by kernel_rfl) (fun _ _ _ h => h) (Or.inl ⟨by rfl, ?_⟩) (by assumption) ?_
  rotate_left
  · (intro w hSw; (try dsimp only at hSw); go_simp; first | done | with_reducible rfl)
  change wpAnyH _ _ _ _ _ 13 _ (Act.put _ (some 32) _) _
  simp only [Act.put, List.setIfInBounds_toArray, List.set_cons_zero, List.set_cons_succ]
  refine wpAnyH_take (fuel := 12) (i := 9) (v := ?_) rfl (by kernel_rfl) (by kernel_rfl) (by kernel_rfl) (fun _ _ _ h => h) (Or.inl ⟨by rfl, ?_⟩) (by assumption) ?_
  rotate_left
  · (intro w hSw; (try dsimp only at hSw); go_simp; first | done | with_reducible rfl)
  change wpAnyH _ _ _ _ _ 12 _ (Act.put _ (some 33) _) _
  simp only [Act.put, List.setIfInBounds_toArray, List.set_cons_zero, List.set_cons_succ]
  refine wpAnyH_take (fuel := 11) (i := 10) (v := ?_) rfl (by kernel_rfl) (by kernel_rfl) (by kernel_rfl) (fun _ _ _ h => h) (Or.inl ⟨by rfl, ?_⟩) (by assumption) ?_
  rotate_left
  · (intro w hSw; (try dsimp only at hSw); go_simp; first | done | with_reducible rfl)
  change wpAnyH _ _ _ _ _ 11 _ (Act.put _ (some 34) _) _
  simp only [Act.put, List.setIfInBounds_toArray, List.set_cons_zero, List.set_cons_succ]
  refine wpAnyH_take (fuel := 10) (i := 11) (v := ?_) rfl (by kernel_rfl) (by kernel_rfl) (by kernel_rfl) (fun _ _ _ h => h) (Or.inl ⟨by rfl, ?_⟩) (by assumption) ?_
  rotate_left
  · (intro w hSw; (try dsimp only at hSw); go_simp; first | done | with_reducible rfl)
  change wpAnyH _ _ _ _ _ 10 _ (Act.put _ (some 35) _) _
  simp only [Act.put, List.setIfInBounds_toArray, List.set_cons_zero, List.set_cons_succ]
  refine wpAnyH_take (fuel := 9) (i := 12) (v := ?_) rfl (by kernel_rfl) (by kernel_rfl) (by kernel_rfl) (fun _ _ _ h => h) (Or.inl ⟨by rfl, ?_⟩) (by assumption) ?_
  rotate_left
  · (intro w hSw; (try dsimp only at hSw); go_simp; first | done | with_reducible rfl)
  change wpAnyH _ _ _ _ _ 9 _ (Act.put _ (some 36) _) _
  simp only [Act.put, List.setIfInBounds_toArray, List.set_cons_zero, List.set_cons_succ]
  refine allH (fuel := 8) (i := 13) (by kernel_rfl) rfl (by rfl) ?_
  intro K hK
  refine wp_callF (f := 53) Tryd.func53 (by kernel_rfl) rfl rfl (vs := #[.int .i32 r]) (by simp only [List.map_toArray, List.map_cons, List.map_nil]; rfl) ?_
  refine (C3 _ (HT.out.new HN.out).drew).mono ?_
  rintro e w2 ⟨rfl, hn⟩
  refine ⟨_, rfl, hK _ _ ((HB.out.drew.fr hn (fun h => h)).sixteen) ?_⟩
  clear hK K hHeld
  have hHeld := (HB.out.drew.fr hn (fun h => h)).sixteen
  have HB := Lib.hid (HB.out.drew.fr hn (fun h => h))
  have HN := Lib.hid (HN.out.trans hn.of_drew)
  clear hn
  change wpAnyH _ _ _ _ _ 8 _ (Act.put _ (some 37) _) _
  simp only [Act.put, List.setIfInBounds_toArray, List.set_cons_zero, List.set_cons_succ]
  refine wpAnyH_take (fuel := 7) (i := 14) (v := ?_) rfl (by kernel_rfl) (by kernel_rfl) (by kernel_rfl) (fun _ _ _ h => h) (Or.inl ⟨by rfl, ?_⟩) (by assumption) ?_
  rotate_left
  · (intro w hSw; (try dsimp only at hSw); go_simp; first | done | with_reducible rfl)
  change wpAnyH _ _ _ _ _ 7 _ (Act.put _ (some 38) _) _
  simp only [Act.put, List.setIfInBounds_toArray, List.set_cons_zero, List.set_cons_succ]
  refine wpAnyH_take (fuel := 6) (i := 15) (v := ?_) rfl (by kernel_rfl) (by kernel_rfl) (by kernel_rfl) (fun _ _ _ h => h) (Or.inl ⟨by rfl, ?_⟩) (by assumption) ?_
  rotate_left
  · (intro w hSw; (try dsimp only at hSw); go_simp; first | done | with_reducible rfl)
  change wpAnyH _ _ _ _ _ 6 _ (Act.put _ (some 39) _) _
  simp only [Act.put, List.setIfInBounds_toArray, List.set_cons_zero, List.set_cons_succ]
  refine wpAnyH_take (fuel := 5) (i := 16) (v := ?_) rfl (by kernel_rfl) (by kernel_rfl) (by kernel_rfl) (fun _ _ _ h => h) (Or.inl ⟨by rfl, ?_⟩) (by assumption) ?_
  rotate_left
  · (intro w hSw; (try dsimp only at hSw); go_simp; first | done | with_reducible rfl)
  change wpAnyH _ _ _ _ _ 5 _ (Act.put _ (some 40) _) _
  simp only [Act.put, List.setIfInBounds_toArray, List.set_cons_zero, List.set_cons_succ]
  refine wpAnyH_take (fuel := 4) (i := 17) (v := undef) rfl (by kernel_rfl) (by kernel_rfl) (by kernel_rfl) (fun _ _ _ h => h) (Or.inr ⟨by rfl, rfl⟩) (by assumption) ?_
  change wpAnyH _ _ _ _ _ 4 _ (Act.put _ (some 41) _) _
  simp only [Act.put, List.setIfInBounds_toArray, List.set_cons_zero, List.set_cons_succ]
  refine wpAnyH_take (fuel := 3) (i := 18) (v := undef) rfl (by kernel_rfl) (by kernel_rfl) (by kernel_rfl) (fun _ _ _ h => h) (Or.inr ⟨by rfl, rfl⟩) (by assumption) ?_
  change wpAnyH _ _ _ _ _ 3 _ (Act.put _ (some 42) _) _
  simp only [Act.put, List.setIfInBounds_toArray, List.set_cons_zero, List.set_cons_succ]
  refine wpAnyH_take (fuel := 2) (i := 19) (v := undef) rfl (by kernel_rfl) (by kernel_rfl) (by kernel_rfl) (fun _ _ _ h => h) (Or.inr ⟨by rfl, rfl⟩) (by assumption) ?_
  change wpAnyH _ _ _ _ _ 2 _ (Act.put _ (some 43) _) _
  simp only [Act.put, List.setIfInBounds_toArray, List.set_cons_zero, List.set_cons_succ]
  refine wpAnyH_take (fuel := 1) (i := 20) (v := ?_) rfl (by kernel_rfl) (by kernel_rfl) (by kernel_rfl) (fun _ _ _ h => h) (Or.inl ⟨by rfl, ?_⟩) (by assumption) ?_
  rotate_left
  · (intro w hSw; (try dsimp only at hSw); go_simp; first | done | with_reducible rfl)
  change wpAnyH _ _ _ _ _ 1 _ (Act.put _ (some 44) _) _
  simp only [Act.put, List.setIfInBounds_toArray, List.set_cons_zero, List.set_cons_succ]
  refine wpAnyH_take (fuel := 0) (i := 21) (v := ?_) rfl (by kernel_rfl) (by kernel_rfl) (by kernel_rfl) (fun _ _ _ h => h) (Or.inl ⟨by rfl, ?_⟩) (by assumption) ?_
  rotate_left
  · (intro w hSw; (try dsimp only at hSw); go_simp; first | done | with_reducible rfl)
  change wpAnyH _ _ _ _ _ 0 _ (Act.put _ (some 2) _) _
  simp only [Act.put, List.setIfInBounds_toArray, List.set_cons_zero, List.set_cons_succ]
  refine wpAnyH_done (by kernel_rfl) ?_ _
  go_wp2_with fail
  go_ret
  exact ⟨rfl, HN.out⟩

set_option maxHeartbeats 3200000 in
theorem cv_w1_1 (r m0 m1 m2 : Int) (p : Pn) (hpv : validB p = true) (hr : r ≠ 0) (hq : ofI r = (1)) (w : World) (hT : Tab w) : CValidSaid (Ce.mk r m0 m1 m2 1 p) (okM (Ce.mk r m0 m1 m2 1 p)) w := by
  have C1 := fun w => PVK p true hpv w
  have jr : (r != 0) = true := by simpa using hr
  have C2 := fun w => WrittenK (Ce.mk r m0 m1 m2 1 p) true jr w
  have C3 := fun w hT => OfK r (1) hq w hT
  have HT := Lib.hid hT
  have C4 := fun w hT => areMarks_any (Ce.mk r m0 m1 m2 1 p) w hT
  clear hpv hr jr hq hT
  go_enter Tryd.func39, Tryd.ntmps39
  go_wp2_with fail
  have HN : Hid (New w (w.alloc (.cells (Ce.mk r m0 m1 m2 1 p).cs 30))) := Lib.hid (New.alloc _)
  have HB := Lib.hid (Blk.new w 30 (Ce.mk r m0 m1 m2 1 p).cs)
  generalize w.alloc (.cells (Ce.mk r m0 m1 m2 1 p).cs 30) = W at *
  generalize w.heap.size = g at *
  refine (C1 _).mono ?_
  rintro e w1 ⟨rfl, hn⟩
  have HN := Lib.hid (HN.out.trans hn)
  have HB := Lib.hid (HB.out.fr hn (fun h => h))
  clear hn
  obtain ⟨d0, d1, d2, d3, d4, d5, d6, d7, d8, d9, d10, d11, d12, d13, d14, d15⟩ := HB.out.sixteen
  go_wp2_with fail
  refine (C2 _).mono ?_
  rintro e w1 ⟨rfl, hn⟩
  have HN := Lib.hid (HN.out.trans hn)
  have HB := Lib.hid (HB.out.fr hn (fun h => h))
  clear hn d0 d1 d2 d3 d4 d5 d6 d7 d8 d9 d10 d11 d12 d13 d14 d15
  obtain ⟨d0, d1, d2, d3, d4, d5, d6, d7, d8, d9, d10, d11, d12, d13, d14, d15⟩ := HB.out.sixteen
  go_wp2_with fail
  clear d0 d1 d2 d3 d4 d5 d6 d7 d8 d9 d10 d11 d12 d13 d14 d15
  refine wp_region_held_drew (S := (fun w' => w'.cell? ⟨g, 0, none⟩ = some (.int .i32 r) ∧ w'.cell? ⟨g, 1, none⟩ = some (.int .i32 m0) ∧ w'.cell? ⟨g, 2, none⟩ = some (.int .i32 m1) ∧ w'.cell? ⟨g, 3, none⟩ = some (.int .i32 m2) ∧ w'.cell? ⟨g, 4, none⟩ = some (.int .i64 1) ∧ w'.cell? ⟨g, 5, none⟩ = some (.int .i64 p.fore.k) ∧ w'.cell? ⟨g, 6, none⟩ = some (.int .u8 p.fore.i) ∧ w'.cell? ⟨g, 7, none⟩ = some (.int .u8 p.fore.r) ∧ w'.cell? ⟨g, 8, none⟩ = some (.int .u8 p.fore.g) ∧ w'.cell? ⟨g, 9, none⟩ = some (.int .u8 p.fore.b) ∧ w'.cell? ⟨g, 10, none⟩ = some (.int .i64 p.back.k) ∧ w'.cell? ⟨g, 11, none⟩ = some (.int .u8 p.back.i) ∧ w'.cell? ⟨g, 12, none⟩ = some (.int .u8 p.back.r) ∧ w'.cell? ⟨g, 13, none⟩ = some (.int .u8 p.back.g) ∧ w'.cell? ⟨g, 14, none⟩ = some (.int .u8 p.back.b) ∧ w'.cell? ⟨g, 15, none⟩ = some (.int .u8 p.fl))) (by kernel_rfl) ?_ (fun hHeld => ?_)
  · exact HB.out.sixteen
  refine wpAnyH_take (fuel := 21) (i := 0) (v := ?_) rfl (by kernel_rfl) (by kernel_rfl) (by kernel_rfl) (fun _ _ _ h => h) (Or.inl ⟨by rfl, ?_⟩) (by assumption) ?_
  rotate_left
  · (intro w hSw; (try dsimp only at hSw); go_simp; first | done | with_reducible rfl)
  change wpAnyH _ _ _ _ _ 21 _ (Act.put _ (some 24) _) _
  simp only [Act.put, List.setIfInBounds_toArray, List.set_cons_zero, List.set_cons_succ]
  refine wpAnyH_take (fuel := 20) (i := 1) (v := ?_) rfl (by kernel_rfl) (by kernel_rfl) (by kernel_rfl) (fun _ _ _ h => h) (Or.inl ⟨by rfl, ?_⟩) (by assumption) ?_
  rotate_left
  · (intro w hSw; (try dsimp only at hSw); go_simp; first | done | with_reducible rfl)
  change wpAnyH _ _ _ _ _ 20 _ (Act.put _ (some 25) _) _
  simp only [Act.put, List.setIfInBounds_toArray, List.set_cons_zero, List.set_cons_succ]
  refine wpAnyH_take (fuel := 19) (i := 2) (v := ?_) rfl (by kernel_rfl) (by kernel_rfl) (by kernel_rfl) (fun _ _ _ h => h) (Or.inl ⟨by rfl, ?_⟩) (by assumption) ?_
  rotate_left
  · (intro w hSw; (try dsimp only at hSw); go_simp; first | done | with_reducible rfl)
  change wpAnyH _ _ _ _ _ 19 _ (Act.put _ (some 26) _) _
  simp only [Act.put, List.setIfInBounds_toArray, List.set_cons_zero, List.set_cons_succ]
  refine wpAnyH_take (fuel := 18) (i := 3) (v := ?_) rfl (by kernel_rfl) (by kernel_rfl) (by kernel_rfl) (fun _ _ _ h => h) (Or.inl ⟨by rfl, ?_⟩) (by assumption) ?_
  rotate_left
  · (intro w hSw; (try dsimp only at hSw); go_simp; first | done | with_reducible rfl)
  change wpAnyH _ _ _ _ _ 18 _ (Act.put _ (some 27) _) _
  simp only [Act.put, List.setIfInBounds_toArray, List.set_cons_zero, List.set_cons_succ]
  refine wpAnyH_take (fuel := 17) (i := 4) (v := undef) rfl (by kernel_rfl) (by kernel_rfl) (by kernel_rfl) (fun _ _ _ h => h) (Or.inr ⟨by rfl, rfl⟩) (by assumption) ?_
  change wpAnyH _ _ _ _ _ 17 _ (Act.put _ (some 28) _) _
  simp only [Act.put, List.setIfInBounds_toArray, List.set_cons_zero, List.set_cons_succ]
  refine wpAnyH_take (fuel := 16) (i := 5) (v := undef) rfl (by kernel_rfl) (by kernel_rfl) (by kernel_rfl) (fun _ _ _ h => h) (Or.inr ⟨by rfl, rfl⟩) (by assumption) ?_
  change wpAnyH _ _ _ _ _ 16 _ (Act.put _ (some 29) _) _
  simp only [Act.put, List.setIfInBounds_toArray, List.set_cons_zero, List.set_cons_succ]
  refine wpAnyH_take (fuel := 15) (i := 6) (v := undef) rfl (by kernel_rfl) (by kernel_rfl) (by kernel_rfl) (fun _ _ _ h => h) (Or.inr ⟨by rfl, rfl⟩) (by assumption) ?_
  change wpAnyH _ _ _ _ _ 15 _ (Act.put _ (some 30) _) _
  simp only [Act.put, List.setIfInBounds_toArray, List.set_cons_zero, List.set_cons_succ]
  refine wpAnyH_take (fuel := 14) (i := 7) (v := ?_) rfl (by kernel_rfl) (by kernel_rfl) (by kernel_rfl) (fun _ _ _ h => h) (Or.inl ⟨by rfl, ?_⟩) (by assumption) ?_
  rotate_left
  · (intro w hSw; (try dsimp only at hSw); go_simp; first | done | with_reducible rfl)
  change wpAnyH _ _ _ _ _ 14 _ (Act.put _ (some 31) _) _
  simp only [Act.put, List.setIfInBounds_toArray, List.set_cons_zero, List.set_cons_succ]
  refine wpAnyH_take (fuel := 13) (i := 8) (v := ?_) rfl (by kernel_rfl) (by kernel_rfl) (by kernel_rfl) (fun _ _ _ h => h) (Or.inl ⟨by rfl, ?_⟩) (by assumption) ?_
  rotate_left
  · (intro w hSw; (try dsimp only at hSw); go_simp; first | done | with_reducible rfl)
  change wpAnyH _ _ _ _ _ 13 _ (Act.put _ (some 32) _) _
  simp only [Act.put, List.setIfInBounds_toArray, List.set_cons_zero, List.set_cons_succ]
  refine wpAnyH_take (fuel := 12) (i := 9) (v := ?_) rfl (by kernel_rfl) (by kernel_rfl) (by kernel_rfl) (fun _ _ _ h => h) (Or.inl ⟨by rfl, ?_⟩) (by assumption) ?_
  rotate_left
  · (intro w hSw; (try dsimp only at hSw); go_simp; first | done | with_reducible rfl)
  change wpAnyH _ _ _ _ _ 12 _ (Act.put _ (some 33) _) _
  simp only [Act.put, List.setIfInBounds_toArray, List.set_cons_zero, List.set_cons_succ]
  refine wpAnyH_take (fuel := 11) (i := 10) (v := ?_) rfl (by kernel_rfl) (by kernel_rfl) (by kernel_rfl) (fun _ _ _ h => h) (Or.inl ⟨by rfl, ?_⟩) (by assumption) ?_
  rotate_left
  · (intro w hSw; (try dsimp only at hSw); go_simp; first | done | with_reducible rfl)
  change wpAnyH _ _ _ _ _ 11 _ (Act.put _ (some 34) _) _
  simp only [Act.put, List.setIfInBounds_toArray, List.set_cons_zero, List.set_cons_succ]
  refine wpAnyH_take (fuel := 10) (i := 11) (v := ?_) rfl (by kernel_rfl) (by kernel_rfl) (by kernel_rfl) (fun _ _ _ h => h) (Or.inl ⟨by rfl, ?_⟩) (by assumption) ?_
  rotate_left
  · (intro w hSw; (try dsimp only at hSw); go_simp; first | done | with_reducible rfl)
  change wpAnyH _ _ _ _ _ 10 _ (Act.put _ (some 35) _) _
  simp only [Act.put, List.setIfInBounds_toArray, List.set_cons_zero, List.set_cons_succ]
  refine wpAnyH_take (fuel := 9) (i := 12) (v := ?_) rfl (by kernel_rfl) (by kernel_rfl) (by kernel_rfl) (fun _ _ _ h => h) (Or.inl ⟨by rfl, ?_⟩) (by assumption) ?_
  rotate_left
  · (intro w hSw; (try dsimp only at hSw); go_simp; first | done | with_reducible rfl)
  change wpAnyH _ _ _ _ _ 9 _ (Act.put _ (some 36) _) _
  simp only [Act.put, List.setIfInBounds_toArray, List.set_cons_zero, List.set_cons_succ]
  refine allH (fuel := 8) (i := 13) (by kernel_rfl) rfl (by rfl) ?_
  intro K hK
  refine wp_callF (f := 53) Tryd.func53 (by kernel_rfl) rfl rfl (vs := #[.int .i32 r]) (by simp only [List.map_toArray, List.map_cons, List.map_nil]; rfl) ?_
  refine (C3 _ (HT.out.new HN.out).drew).mono ?_
  rintro e w2 ⟨rfl, hn⟩
  refine ⟨_, rfl, hK _ _ ((HB.out.drew.fr hn (fun h => h)).sixteen) ?_⟩
  clear hK K hHeld
  have hHeld := (HB.out.drew.fr hn (fun h => h)).sixteen
  have HB := Lib.hid (HB.out.drew.fr hn (fun h => h))
  have HN := Lib.hid (HN.out.trans hn.of_drew)
  clear hn
  change wpAnyH _ _ _ _ _ 8 _ (Act.put _ (some 37) _) _
  simp only [Act.put, List.setIfInBounds_toArray, List.set_cons_zero, List.set_cons_succ]
  refine wpAnyH_take (fuel := 7) (i := 14) (v := ?_) rfl (by kernel_rfl) (by kernel_rfl) (by kernel_rfl) (fun _ _ _ h => h) (Or.inl ⟨by rfl, ?_⟩) (by assumption) ?_
  rotate_left
  · (intro w hSw; (try dsimp only at hSw); go_simp; first | done | with_reducible rfl)
  change wpAnyH _ _ _ _ _ 7 _ (Act.put _ (some 38) _) _
  simp only [Act.put, List.setIfInBounds_toArray, List.set_cons_zero, List.set_cons_succ]
  refine wpAnyH_take (fuel := 6) (i := 15) (v := ?_) rfl (by kernel_rfl) (by kernel_rfl) (by kernel_rfl) (fun _ _ _ h => h) (Or.inl ⟨by rfl, ?_⟩) (by assumption) ?_
  rotate_left
  · (intro w hSw; (try dsimp only at hSw); go_simp; first | done | with_reducible rfl)
  change wpAnyH _ _ _ _ _ 6 _ (Act.put _ (some 39) _) _
  simp only [Act.put, List.setIfInBounds_toArray, List.set_cons_zero, List.set_cons_succ]
  refine wpAnyH_take (fuel := 5) (i := 16) (v := ?_) rfl (by kernel_rfl) (by kernel_rfl) (by kernel_rfl) (fun _ _ _ h => h) (Or.inl ⟨by rfl, ?_⟩) (by assumption) ?_
  rotate_left
  · (intro w hSw; (try dsimp only at hSw); go_simp; first | done | with_reducible rfl)
  change wpAnyH _ _ _ _ _ 5 _ (Act.put _ (some 40) _) _
  simp only [Act.put, List.setIfInBounds_toArray, List.set_cons_zero, List.set_cons_succ]
  refine wpAnyH_take (fuel := 4) (i := 17) (v := ?_) rfl (by kernel_rfl) (by kernel_rfl) (by kernel_rfl) (fun _ _ _ h => h) (Or.inl ⟨by rfl, ?_⟩) (by assumption) ?_
  rotate_left
  · (intro w hSw; (try dsimp only at hSw); go_simp; first | done | with_reducible rfl)
  change wpAnyH _ _ _ _ _ 4 _ (Act.put _ (some 41) _) _
  simp only [Act.put, List.setIfInBounds_toArray, List.set_cons_zero, List.set_cons_succ]
  refine wpAnyH_take (fuel := 3) (i := 18) (v := ?_) rfl (by kernel_rfl) (by kernel_rfl) (by kernel_rfl) (fun _ _ _ h => h) (Or.inl ⟨by rfl, ?_⟩) (by assumption) ?_
  rotate_left
  · (intro w hSw; (try dsimp only at hSw); go_simp; first | done | with_reducible rfl)
  change wpAnyH _ _ _ _ _ 3 _ (Act.put _ (some 42) _) _
  simp only [Act.put, List.setIfInBounds_toArray, List.set_cons_zero, List.set_cons_succ]
  refine allH (fuel := 2) (i := 19) (by kernel_rfl) rfl (by rfl) ?_
  intro K hK
  refine wp_callF (f := 54) Tryd.func54 (by kernel_rfl) rfl rfl (vs := #[.agg #[.int .i32 m0, .int .i32 m1, .int .i32 m2]]) (by simp only [List.map_toArray, List.map_cons, List.map_nil]; rfl) ?_
  refine (C4 _ (HT.out.new HN.out)).mono ?_
  rintro e w3 ⟨rfl, hn⟩
  refine ⟨_, rfl, hK _ _ ((HB.out.fr hn (fun h => h)).sixteen) ?_⟩
  clear hK K hHeld
  have hHeld := (HB.out.fr hn (fun h => h)).sixteen
  have HB := Lib.hid (HB.out.fr hn (fun h => h))
  have HN := Lib.hid (HN.out.trans hn)
  clear hn
  change wpAnyH _ _ _ _ _ 2 _ (Act.put _ (some 43) _) _
  simp only [Act.put, List.setIfInBounds_toArray, List.set_cons_zero, List.set_cons_succ]
  refine wpAnyH_take (fuel := 1) (i := 20) (v := ?_) rfl (by kernel_rfl) (by kernel_rfl) (by kernel_rfl) (fun _ _ _ h => h) (Or.inl ⟨by rfl, ?_⟩) (by assumption) ?_
  rotate_left
  · (intro w hSw; (try dsimp only at hSw); go_simp; first | done | with_reducible rfl)
  change wpAnyH _ _ _ _ _ 1 _ (Act.put _ (some 44) _) _
  simp only [Act.put, List.setIfInBounds_toArray, List.set_cons_zero, List.set_cons_succ]
  refine wpAnyH_take (fuel := 0) (i := 21) (v := ?_) rfl (by kernel_rfl) (by kernel_rfl) (by kernel_rfl) (fun _ _ _ h => h) (Or.inl ⟨by rfl, ?_⟩) (by assumption) ?_
  rotate_left
  · (intro w hSw; (try dsimp only at hSw); go_simp; first | done | with_reducible rfl)
  change wpAnyH _ _ _ _ _ 0 _ (Act.put _ (some 2) _) _
  simp only [Act.put, List.setIfInBounds_toArray, List.set_cons_zero, List.set_cons_succ]
  refine wpAnyH_done (by kernel_rfl) ?_ _
  go_wp2_with fail
  go_ret
  exact ⟨rfl, HN.out⟩

set_option maxHeartbeats 3200000 in
theorem cv_w1_2 (r m0 m1 m2 : Int) (p : Pn) (hpv : validB p = true) (hr : r ≠ 0) (hq : ofI r = (2)) (w : World) (hT : Tab w) : CValidSaid (Ce.mk r m0 m1 m2 1 p) false w := by
  have C1 := fun w => PVK p true hpv w
  have jr : (r != 0) = true := by simpa using hr
  have C2 := fun w => WrittenK (Ce.mk r m0 m1 m2 1 p) true jr w
  have C3 := fun w hT => OfK r (2) hq w hT
  have HT := Lib.hid hT
  clear hpv hr jr hq hT
  go_enter Tryd.func39, Tryd.ntmps39
  go_wp2_with fail
  have HN : Hid (New w (w.alloc (.cells (Ce.mk r m0 m1 m2 1 p).cs 30))) := Lib.hid (New.alloc _)
  have HB := Lib.hid (Blk.new w 30 (Ce.mk r m0 m1 m2 1 p).cs)
  generalize w.alloc (.cells (Ce.mk r m0 m1 m2 1 p).cs 30) = W at *
  generalize w.heap.size = g at *
  refine (C1 _).mono ?_
  rintro e w1 ⟨rfl, hn⟩
  have HN := Lib.hid (HN.out.trans hn)
  have HB := Lib.hid (HB.out.fr hn (fun h => h))
  clear hn
  obtain ⟨d0, d1, d2, d3, d4, d5, d6, d7, d8, d9, d10, d11, d12, d13, d14, d15⟩ := HB.out.sixteen
  go_wp2_with fail
  refine (C2 _).mono ?_
  rintro e w1 ⟨rfl, hn⟩
  have HN := Lib.hid (HN.out.trans hn)
  have HB := Lib.hid (HB.out.fr hn (fun h => h))
  clear hn d0 d1 d2 d3 d4 d5 d6 d7 d8 d9 d10 d11 d12 d13 d14 d15
  obtain ⟨d0, d1, d2, d3, d4, d5, d6, d7, d8, d9, d10, d11, d12, d13, d14, d15⟩ := HB.out.sixteen
  go_wp2_with fail
  clear d0 d1 d2 d3 d4 d5 d6 d7 d8 d9 d10 d11 d12 d13 d14 d15
  refine wp_region_held_drew (S := (fun w' => w'.cell? ⟨g, 0, none⟩ = some (.int .i32 r) ∧ w'.cell? ⟨g, 1, none⟩ = some (.int .i32 m0) ∧ w'.cell? ⟨g, 2, none⟩ = some (.int .i32 m1) ∧ w'.cell? ⟨g, 3, none⟩ = some (.int .i32 m2) ∧ w'.cell? ⟨g, 4, none⟩ = some (.int .i64 1) ∧ w'.cell? ⟨g, 5, none⟩ = some (.int .i64 p.fore.k) ∧ w'.cell? ⟨g, 6, none⟩ = some (.int .u8 p.fore.i) ∧ w'.cell? ⟨g, 7, none⟩ = some (.int .u8 p.fore.r) ∧ w'.cell? ⟨g, 8, none⟩ = some (.int .u8 p.fore.g) ∧ w'.cell? ⟨g, 9, none⟩ = some (.int .u8 p.fore.b) ∧ w'.cell? ⟨g, 10, none⟩ = some (.int .i64 p.back.k) ∧ w'.cell? ⟨g, 11, none⟩ = some (.int .u8 p.back.i) ∧ w'.cell? ⟨g, 12, none⟩ = some (.int .u8 p.back.r) ∧ w'.cell? ⟨g, 13, none⟩ = some (.int .u8 p.back.g) ∧ w'.cell? ⟨g, 14, none⟩ = some (.int .u8 p.back.b) ∧ w'.cell? ⟨g, 15, none⟩ = some (.int .u8 p.fl))) (by kernel_rfl) ?_ (fun hHeld => ?_)
  · exact HB.out.sixteen
  refine wpAnyH_take (fuel := 21) (i := 0) (v := ?_) rfl (by kernel_rfl) (by kernel_rfl) (by kernel_rfl) (fun _ _ _ h => h) (Or.inl ⟨by rfl, ?_⟩) (by assumption) ?_
  rotate_left
  · (intro w hSw; (try dsimp only at hSw); go_simp; first | done | with_reducible rfl)
  change wpAnyH _ _ _ _ _ 21 _ (Act.put _ (some 24) _) _
  simp only [Act.put, List.setIfInBounds_toArray, List.set_cons_zero, List.set_cons_succ]
  refine wpAnyH_take (fuel := 20) (i := 1) (v := ?_) rfl (by kernel_rfl) (by kernel_rfl) (by kernel_rfl) (fun _ _ _ h => h) (Or.inl ⟨by rfl, ?_⟩) (by assumption) ?_
  rotate_left
  · (intro w hSw; (try dsimp only at hSw); go_simp; first | done | with_reducible rfl)
  change wpAnyH _ _ _ _ _ 20 _ (Act.put _ (some 25) _) _
  simp only [Act.put, List.setIfInBounds_toArray, List.set_cons_zero, List.set_cons_succ]
  refine wpAnyH_take (fuel := 19) (i := 2) (v := ?_) rfl (by kernel_rfl) (by kernel_rfl) (by kernel_rfl) (fun _ _ _ h => h) (Or.inl ⟨by rfl, ?_⟩) (by assumption) ?_
  rotate_left
  · (intro w hSw; (try dsimp only at hSw); go_simp; first | done | with_reducible rfl)
  change wpAnyH _ _ _ _ _ 19 _ (Act.put _ (some 26) _) _
  simp only [Act.put, List.setIfInBounds_toArray, List.set_cons_zero, List.set_cons_succ]
  refine wpAnyH_take (fuel := 18) (i := 3) (v := ?_) rfl (by kernel_rfl) (by kernel_rfl) (by kernel_rfl) (fun _ _ _ h => h) (Or.inl ⟨by rfl, ?_⟩) (by assumption) ?_
  rotate_left
  · (intro w hSw; (try dsimp only at hSw); go_simp; first | done | with_reducible rfl)
  change wpAnyH _ _ _ _ _ 18 _ (Act.put _ (some 27) _) _
  simp only [Act.put, List.setIfInBounds_toArray, List.set_cons_zero, List.set_cons_succ]
  refine wpAnyH_take (fuel := 17) (i := 4) (v := undef) rfl (by kernel_rfl) (by kernel_rfl) (by kernel_rfl) (fun _ _ _ h => h) (Or.inr ⟨by rfl, rfl⟩) (by assumption) ?_
  change wpAnyH _ _ _ _ _ 17 _ (Act.put _ (some 28) _) _
  simp only [Act.put, List.setIfInBounds_toArray, List.set_cons_zero, List.set_cons_succ]
  refine wpAnyH_take (fuel := 16) (i := 5) (v := undef) rfl (by kernel_rfl) (by kernel_rfl) (by kernel_rfl) (fun _ _ _ h => h) (Or.inr ⟨by rfl, rfl⟩) (by assumption) ?_
  change wpAnyH _ _ _ _ _ 16 _ (Act.put _ (some 29) _) _
  simp only [Act.put, List.setIfInBounds_toArray, List.set_cons_zero, List.set_cons_succ]
  refine wpAnyH_take (fuel := 15) (i := 6) (v := undef) rfl (by kernel_rfl) (by kernel_rfl) (by kernel_rfl) (fun _ _ _ h => h) (Or.inr ⟨by rfl, rfl⟩) (by assumption) ?_
  change wpAnyH _ _ _ _ _ 15 _ (Act.put _ (some 30) _) _
  simp only [Act.put, List.setIfInBounds_toArray, List.set_cons_zero, List.set_cons_succ]
  refine wpAnyH_take (fuel := 14) (i := 7) (v := ?_) rfl (by kernel_rfl) (by kernel_rfl) (by kernel_rfl) (fun _ _ _ h => h) (Or.inl ⟨by rfl, ?_⟩) (by assumption) ?_
  rotate_left
  · (intro w hSw; (try dsimp only at hSw); go_simp; first | done | with_reducible rfl)
  change wpAnyH _ _ _ _ _ 14 _ (Act.put _ (some 31) _) _
  simp only [Act.put, List.setIfInBounds_toArray, List.set_cons_zero, List.set_cons_succ]
  refine wpAnyH_take (fuel := 13) (i := 8) (v := ?_) rfl (by kernel_rfl) (by kernel_rfl) (by kernel_rfl) (fun _ _ _ h => h) (Or.inl ⟨by rfl, ?_⟩) (by assumption) ?_
  rotate_left
  · (intro w hSw; (try dsimp only at hSw); go_simp; first | done | with_reducible rfl)
  change wpAnyH _ _ _ _ _ 13 _ (Act.put _ (some 32) _) _
  simp only [Act.put, List.setIfInBounds_toArray, List.set_cons_zero, List.set_cons_succ]
  refine wpAnyH_take (fuel := 12) (i := 9) (v := ?_) rfl (by kernel_rfl) (by kernel_rfl) (by kernel_rfl) (fun _ _ _ h => h) (Or.inl ⟨by rfl, ?_⟩) (by assumption) ?_
  rotate_left
  · (intro w hSw; (try dsimp only at hSw); go_simp; first | done | with_reducible rfl)
  change wpAnyH _ _ _ _ _ 12 _ (Act.put _ (some 33) _) _
  simp only [Act.put, List.setIfInBounds_toArray, List.set_cons_zero, List.set_cons_succ]
  refine wpAnyH_take (fuel := 11) (i := 10) (v := ?_) rfl (by kernel_rfl) (by kernel_rfl) (by kernel_rfl) (fun _ _ _ h => h) (Or.inl ⟨by rfl, ?_⟩) (by assumption) ?_
  rotate_left
  · (intro w hSw; (try dsimp only at hSw); go_simp; first | done | with_reducible rfl)
  change wpAnyH _ _ _ _ _ 11 _ (Act.put _ (some 34) _) _
  simp only [Act.put, List.setIfInBounds_toArray, List.set_cons_zero, List.set_cons_succ]
  refine wpAnyH_take (fuel := 10) (i := 11) (v := ?_) rfl (by kernel_rfl) (by kernel_rfl) (by kernel_rfl) (fun _ _ _ h => h) (Or.inl ⟨by rfl, ?_⟩) (by assumption) ?_
  rotate_left
  · (intro w hSw; (try dsimp only at hSw); go_simp; first | done | with_reducible rfl)
  change wpAnyH _ _ _ _ _ 10 _ (Act.put _ (some 35) _) _
  simp only [Act.put, List.setIfInBounds_toArray, List.set_cons_zero, List.set_cons_succ]
  refine wpAnyH_take (fuel := 9) (i := 12) (v := ?_) rfl (by kernel_rfl) (by kernel_rfl) (by kernel_rfl) (fun _ _ _ h => h) (Or.inl ⟨by rfl, ?_⟩) (by assumption) ?_
  rotate_left
  · (intro w hSw; (try dsimp only at hSw); go_simp; first | done | with_reducible rfl)
  change wpAnyH _ _ _ _ _ 9 _ (Act.put _ (some 36) _) _
  simp only [Act.put, List.setIfInBounds_toArray, List.set_cons_zero, List.set_cons_succ]
  refine allH (fuel := 8) (i := 13) (by kernel_rfl) rfl (by rfl) ?_
  intro K hK
  refine wp_callF (f := 53) Tryd.func53 (by kernel_rfl) rfl rfl (vs := #[.int .i32 r]) (by simp only [List.map_toArray, List.map_cons, List.map_nil]; rfl) ?_
  refine (C3 _ (HT.out.new HN.out).drew).mono ?_
  rintro e w2 ⟨rfl, hn⟩
  refine ⟨_, rfl, hK _ _ ((HB.out.drew.fr hn (fun h => h)).sixteen) ?_⟩
  clear hK K hHeld
  have hHeld := (HB.out.drew.fr hn (fun h => h)).sixteen
  have HB := Lib.hid (HB.out.drew.fr hn (fun h => h))
  have HN := Lib.hid (HN.out.trans hn.of_drew)
  clear hn
  change wpAnyH _ _ _ _ _ 8 _ (Act.put _ (some 37) _) _
  simp only [Act.put, List.setIfInBounds_toArray, List.set_cons_zero, List.set_cons_succ]
  refine wpAnyH_take (fuel := 7) (i := 14) (v := ?_) rfl (by kernel_rfl) (by kernel_rfl) (by kernel_rfl) (fun _ _ _ h => h) (Or.inl ⟨by rfl, ?_⟩) (by assumption) ?_
  rotate_left
  · (intro w hSw; (try dsimp only at hSw); go_simp; first | done | with_reducible rfl)
  change wpAnyH _ _ _ _ _ 7 _ (Act.put _ (some 38) _) _
  simp only [Act.put, List.setIfInBounds_toArray, List.set_cons_zero, List.set_cons_succ]
  refine wpAnyH_take (fuel := 6) (i := 15) (v := ?_) rfl (by kernel_rfl) (by kernel_rfl) (by kernel_rfl) (fun _ _ _ h => h) (Or.inl ⟨by rfl, ?_⟩) (by assumption) ?_
  rotate_left
  · (intro w hSw; (try dsimp only at hSw); go_simp; first | done | with_reducible rfl)
  change wpAnyH _ _ _ _ _ 6 _ (Act.put _ (some 39) _) _
  simp only [Act.put, List.setIfInBounds_toArray, List.set_cons_zero, List.set_cons_succ]
  refine wpAnyH_take (fuel := 5) (i := 16) (v := ?_) rfl (by kernel_rfl) (by kernel_rfl) (by kernel_rfl) (fun _ _ _ h => h) (Or.inl ⟨by rfl, ?_⟩) (by assumption) ?_
  rotate_left
  · (intro w hSw; (try dsimp only at hSw); go_simp; first | done | with_reducible rfl)
  change wpAnyH _ _ _ _ _ 5 _ (Act.put _ (some 40) _) _
  simp only [Act.put, List.setIfInBounds_toArray, List.set_cons_zero, List.set_cons_succ]
  refine wpAnyH_take (fuel := 4) (i := 17) (v := undef) rfl (by kernel_rfl) (by kernel_rfl) (by kernel_rfl) (fun _ _ _ h => h) (Or.inr ⟨by rfl, rfl⟩) (by assumption) ?_
  change wpAnyH _ _ _ _ _ 4 _ (Act.put _ (some 41) _) _
  simp only [Act.put, List.setIfInBounds_toArray, List.set_cons_zero, List.set_cons_succ]
  refine wpAnyH_take (fuel := 3) (i := 18) (v := undef) rfl (by kernel_rfl) (by kernel_rfl) (by kernel_rfl) (fun _ _ _ h => h) (Or.inr ⟨by rfl, rfl⟩) (by assumption) ?_
  change wpAnyH _ _ _ _ _ 3 _ (Act.put _ (some 42) _) _
  simp only [Act.put, List.setIfInBounds_toArray, List.set_cons_zero, List.set_cons_succ]
  refine wpAnyH_take (fuel := 2) (i := 19) (v := undef) rfl (by kernel_rfl) (by kernel_rfl) (by kernel_rfl) (fun _ _ _ h => h) (Or.inr ⟨by rfl, rfl⟩) (by assumption) ?_
  change wpAnyH _ _ _ _ _ 2 _ (Act.put _ (some 43) _) _
  simp only [Act.put, List.setIfInBounds_toArray, List.set_cons_zero, List.set_cons_succ]
  refine wpAnyH_take (fuel := 1) (i := 20) (v := ?_) rfl (by kernel_rfl) (by kernel_rfl) (by kernel_rfl) (fun _ _ _ h => h) (Or.inl ⟨by rfl, ?_⟩) (by assumption) ?_
  rotate_left
  · (intro w hSw; (try dsimp only at hSw); go_simp; first | done | with_reducible rfl)
  change wpAnyH _ _ _ _ _ 1 _ (Act.put _ (some 44) _) _
  simp only [Act.put, List.setIfInBounds_toArray, List.set_cons_zero, List.set_cons_succ]
  refine wpAnyH_take (fuel := 0) (i := 21) (v := ?_) rfl (by kernel_rfl) (by kernel_rfl) (by kernel_rfl) (fun _ _ _ h => h) (Or.inl ⟨by rfl, ?_⟩) (by assumption) ?_
  rotate_left
  · (intro w hSw; (try dsimp only at hSw); go_simp; first | done | with_reducible rfl)
  change wpAnyH _ _ _ _ _ 0 _ (Act.put _ (some 2) _) _
  simp only [Act.put, List.setIfInBounds_toArray, List.set_cons_zero, List.set_cons_succ]
  refine wpAnyH_done (by kernel_rfl) ?_ _
  go_wp2_with fail
  go_ret
  exact ⟨rfl, HN.out⟩

set_option maxHeartbeats 3200000 in
theorem cv_w2_m (r m0 m1 m2 : Int) (p : Pn) (hpv : validB p = true) (hr : r ≠ 0) (hq : ofI r = (-1)) (w : World) (hT : Tab w) : CValidSaid (Ce.mk r m0 m1 m2 2 p) false w := by
  have C1 := fun w => PVK p true hpv w
  have jr : (r != 0) = true := by simpa using hr
  have C2 := fun w => WrittenK (Ce.mk r m0 m1 m2 2 p) true jr w
  have C3 := fun w hT => OfK r (-1) hq w hT
  have HT := Lib.hid hT
  clear hpv hr jr hq hT
  go_enter Tryd.func39, Tryd.ntmps39
  go_wp2_with fail
  have HN : Hid (New w (w.alloc (.cells (Ce.mk r m0 m1 m2 2 p).cs 30))) := Lib.hid (New.alloc _)
  have HB := Lib.hid (Blk.new w 30 (Ce.mk r m0 m1 m2 2 p).cs)
  generalize w.alloc (.cells (Ce.mk r m0 m1 m2 2 p).cs 30) = W at *
  generalize w.heap.size = g at *
  refine (C1 _).mono ?_
  rintro e w1 ⟨rfl, hn⟩
  have HN := Lib.hid (HN.out.trans hn)
  have HB := Lib.hid (HB.out.fr hn (fun h => h))
  clear hn
  obtain ⟨d0, d1, d2, d3, d4, d5, d6, d7, d8, d9, d10, d11, d12, d13, d14, d15⟩ := HB.out.sixteen
  go_wp2_with fail
  refine (C2 _).mono ?_
  rintro e w1 ⟨rfl, hn⟩
  have HN := Lib.hid (HN.out.trans hn)
  have HB := Lib.hid (HB.out.fr hn (fun h => h))
  clear hn d0 d1 d2 d3 d4 d5 d6 d7 d8 d9 d10 d11 d12 d13 d14 d15
  obtain ⟨d0, d1, d2, d3, d4, d5, d6, d7, d8, d9, d10, d11, d12, d13, d14, d15⟩ := HB.out.sixteen
  go_wp2_with fail
  clear d0 d1 d2 d3 d4 d5 d6 d7 d8 d9 d10 d11 d12 d13 d14 d15
  refine wp_region_held_drew (S := (fun w' => w'.cell? ⟨g, 0, none⟩ = some (.int .i32 r) ∧ w'.cell? ⟨g, 1, none⟩ = some (.int .i32 m0) ∧ w'.cell? ⟨g, 2, none⟩ = some (.int .i32 m1) ∧ w'.cell? ⟨g, 3, none⟩ = some (.int .i32 m2) ∧ w'.cell? ⟨g, 4, none⟩ = some (.int .i64 2) ∧ w'.cell? ⟨g, 5, none⟩ = some (.int .i64 p.fore.k) ∧ w'.cell? ⟨g, 6, none⟩ = some (.int .u8 p.fore.i) ∧ w'.cell? ⟨g, 7, none⟩ = some (.int .u8 p.fore.r) ∧ w'.cell? ⟨g, 8, none⟩ = some (.int .u8 p.fore.g) ∧ w'.cell? ⟨g, 9, none⟩ = some (.int .u8 p.fore.b) ∧ w'.cell? ⟨g, 10, none⟩ = some (.int .i64 p.back.k) ∧ w'.cell? ⟨g, 11, none⟩ = some (.int .u8 p.back.i) ∧ w'.cell? ⟨g, 12, none⟩ = some (.int .u8 p.back.r) ∧ w'.cell? ⟨g, 13, none⟩ = some (.int .u8 p.back.g) ∧ w'.cell? ⟨g, 14, none⟩ = some (.int .u8 p.back.b) ∧ w'.cell? ⟨g, 15, none⟩ = some (.int .u8 p.fl))) (by kernel_rfl) ?_ (fun hHeld => ?_)
  · exact HB.out.sixteen
  refine wpAnyH_take (fuel := 21) (i := 0) (v := ?_) rfl (by kernel_rfl) (by kernel_rfl) (by kernel_rfl) (fun _ _ _ h => h) (Or.inl ⟨by rfl, ?_⟩) (by assumption) ?_
  rotate_left
  · (intro w hSw; (try dsimp only at hSw); go_simp; first | done | with_reducible rfl)
  change wpAnyH _ _ _ _ _ 21 _ (Act.put _ (some 24) _) _
  simp only [Act.put, List.setIfInBounds_toArray, List.set_cons_zero, List.set_cons_succ]
  refine wpAnyH_take (fuel := 20) (i := 1) (v := ?_) rfl (by kernel_rfl) (by kernel_rfl) (by kernel_rfl) (fun _ _ _ h => h) (Or.inl ⟨by rfl, ?_⟩) (by assumption) ?_
  rotate_left
  · (intro w hSw; (try dsimp only at hSw); go_simp; first | done | with_reducible rfl)
  change wpAnyH _ _ _ _ _ 20 _ (Act.put _ (some 25) _) _
  simp only [Act.put, List.setIfInBounds_toArray, List.set_cons_zero, List.set_cons_succ]
  refine wpAnyH_take (fuel := 19) (i := 2) (v := ?_) rfl (by kernel_rfl) (by kernel_rfl) (by kernel_rfl) (fun _ _ _ h => h) (Or.inl ⟨by rfl, ?_⟩) (by assumption) ?_
  rotate_left
  · (intro w hSw; (try dsimp only at hSw); go_simp; first | done | with_reducible rfl)
  change wpAnyH _ _ _ _ _ 19 _ (Act.put _ (some 26) _) _
  simp only [Act.put, List.setIfInBounds_toArray, List.set_cons_zero, List.set_cons_succ]
  refine wpAnyH_take (fuel := 18) (i := 3) (v := ?_) rfl (by kernel_rfl) (by kernel_rfl) (by kernel_rfl) (fun _ _ _ h => h) (Or.inl ⟨by rfl, ?_⟩) (by assumption) ?_
  rotate_left
  · (intro w hSw; (try dsimp only at hSw); go_simp; first | done | with_reducible rfl)
  change wpAnyH _ _ _ _ _ 18 _ (Act.put _ (some 27) _) _
  simp only [Act.put, List.setIfInBounds_toArray, List.set_cons_zero, List.set_cons_succ]
  refine wpAnyH_take (fuel := 17) (i := 4) (v := ?_) rfl (by kernel_rfl) (by kernel_rfl) (by kernel_rfl) (fun _ _ _ h => h) (Or.inl ⟨by rfl, ?_⟩) (by assumption) ?_
  rotate_left
  · (intro w hSw; (try dsimp only at hSw); go_simp; first | done | with_reducible rfl)
  change wpAnyH _ _ _ _ _ 17 _ (Act.put _ (some 28) _) _
  simp only [Act.put, List.setIfInBounds_toArray, List.set_cons_zero, List.set_cons_succ]
  refine wpAnyH_take (fuel := 16) (i := 5) (v := ?_) rfl (by kernel_rfl) (by kernel_rfl) (by kernel_rfl) (fun _ _ _ h => h) (Or.inl ⟨by rfl, ?_⟩) (by assumption) ?_
  rotate_left
  · (intro w hSw; (try dsimp only at hSw); go_simp; first | done | with_reducible rfl)
  change wpAnyH _ _ _ _ _ 16 _ (Act.put _ (some 29) _) _
  simp only [Act.put, List.setIfInBounds_toArray, List.set_cons_zero, List.set_cons_succ]
  refine wpAnyH_take (fuel := 15) (i := 6) (v := ?_) rfl (by kernel_rfl) (by kernel_rfl) (by kernel_rfl) (fun _ _ _ h => h) (Or.inl ⟨by rfl, ?_⟩) (by assumption) ?_
  rotate_left
  · (intro w hSw; (try dsimp only at hSw); go_simp; first | done | with_reducible rfl)
  change wpAnyH _ _ _ _ _ 15 _ (Act.put _ (some 30) _) _
  simp only [Act.put, List.setIfInBounds_toArray, List.set_cons_zero, List.set_cons_succ]
  refine wpAnyH_take (fuel := 14) (i := 7) (v := ?_) rfl (by kernel_rfl) (by kernel_rfl) (by kernel_rfl) (fun _ _ _ h => h) (Or.inl ⟨by rfl, ?_⟩) (by assumption) ?_
  rotate_left
  · (intro w hSw; (try dsimp only at hSw); go_simp; first | done | with_reducible rfl)
  change wpAnyH _ _ _ _ _ 14 _ (Act.put _ (some 31) _) _
  simp only [Act.put, List.setIfInBounds_toArray, List.set_cons_zero, List.set_cons_succ]
  refine wpAnyH_take (fuel := 13) (i := 8) (v := ?_) rfl (by kernel_rfl) (by kernel_rfl) (by kernel_rfl) (fun _ _ _ h => h) (Or.inl ⟨by rfl, ?_⟩) (by assumption) ?_
  rotate_left
  · (intro w hSw; (try dsimp only at hSw); go_simp; first | done | with_reducible rfl)
  change wpAnyH _ _ _ _ _ 13 _ (Act.put _ (some 32) _) _
  simp only [Act.put, List.setIfInBounds_toArray, List.set_cons_zero, List.set_cons_succ]
  refine wpAnyH_take (fuel := 12) (i := 9) (v := ?_) rfl (by kernel_rfl) (by kernel_rfl) (by kernel_rfl) (fun _ _ _ h => h) (Or.inl ⟨by rfl, ?_⟩) (by assumption) ?_
  rotate_left
  · (intro w hSw; (try dsimp only at hSw); go_simp; first | done | with_reducible rfl)
  change wpAnyH _ _ _ _ _ 12 _ (Act.put _ (some 33) _) _
  simp only [Act.put, List.setIfInBounds_toArray, List.set_cons_zero, List.set_cons_succ]
  refine wpAnyH_take (fuel := 11) (i := 10) (v := ?_) rfl (by kernel_rfl) (by kernel_rfl) (by kernel_rfl) (fun _ _ _ h => h) (Or.inl ⟨by rfl, ?_⟩) (by assumption) ?_
  rotate_left
  · (intro w hSw; (try dsimp only at hSw); go_simp; first | done | with_reducible rfl)
  change wpAnyH _ _ _ _ _ 11 _ (Act.put _ (some 34) _) _
  simp only [Act.put, List.setIfInBounds_toArray, List.set_cons_zero, List.set_cons_succ]
  refine wpAnyH_take (fuel := 10) (i := 11) (v := ?_) rfl (by kernel_rfl) (by kernel_rfl) (by kernel_rfl) (fun _ _ _ h => h) (Or.inl ⟨by rfl, ?_⟩) (by assumption) ?_
  rotate_left
  · (intro w hSw; (try dsimp only at hSw); go_simp; first | done | with_reducible rfl)
  change wpAnyH _ _ _ _ _ 10 _ (Act.put _ (some 35) _) _
  simp only [Act.put, List.setIfInBounds_toArray, List.set_cons_zero, List.set_cons_succ]
  refine wpAnyH_take (fuel := 9) (i := 12) (v := ?_) rfl (by kernel_rfl) (by kernel_rfl) (by kernel_rfl) (fun _ _ _ h => h) (Or.inl ⟨by rfl, ?_⟩) (by assumption) ?_
  rotate_left
  · (intro w hSw; (try dsimp only at hSw); go_simp; first | done | with_reducible rfl)
  change wpAnyH _ _ _ _ _ 9 _ (Act.put _ (some 36) _) _
  simp only [Act.put, List.setIfInBounds_toArray, List.set_cons_zero, List.set_cons_succ]
  refine allH (fuel := 8) (i := 13) (by kernel_rfl) rfl (by rfl) ?_
  intro K hK
  refine wp_callF (f := 53) Tryd.func53 (by kernel_rfl) rfl rfl (vs := #[.int .i32 r]) (by simp only [List.map_toArray, List.map_cons, List.map_nil]; rfl) ?_
  refine (C3 _ (HT.out.new HN.out).drew).mono ?_
  rintro e w2 ⟨rfl, hn⟩
  refine ⟨_, rfl, hK _ _ ((HB.out.drew.fr hn (fun h => h)).sixteen) ?_⟩
  clear hK K hHeld
  have hHeld := (HB.out.drew.fr hn (fun h => h)).sixteen
  have HB := Lib.hid (HB.out.drew.fr hn (fun h => h))
  have HN := Lib.hid (HN.out.trans hn.of_drew)
  clear hn
  change wpAnyH _ _ _ _ _ 8 _ (Act.put _ (some 37) _) _
  simp only [Act.put, List.setIfInBounds_toArray, List.set_cons_zero, List.set_cons_succ]
  refine wpAnyH_take (fuel := 7) (i := 14) (v := ?_) rfl (by kernel_rfl) (by kernel_rfl) (by kernel_rfl) (fun _ _ _ h => h) (Or.inl ⟨by rfl, ?_⟩) (by assumption) ?_
  rotate_left
  · (intro w hSw; (try dsimp only at hSw); go_simp; first | done | with_reducible rfl)
  change wpAnyH _ _ _ _ _ 7 _ (Act.put _ (some 38) _) _
  simp only [Act.put, List.setIfInBounds_toArray, List.set_cons_zero, List.set_cons_succ]
  refine wpAnyH_take (fuel := 6) (i := 15) (v := ?_) rfl (by kernel_rfl) (by kernel_rfl) (by kernel_rfl) (fun _ _ _ h => h) (Or.inl ⟨by rfl, ?_⟩) (by assumption) ?_
  rotate_left
  · (intro w hSw; (try dsimp only at hSw); go_simp; first | done | with_reducible rfl)
  change wpAnyH _ _ _ _ _ 6 _ (Act.put _ (some 39) _) _
  simp only [Act.put, List.setIfInBounds_toArray, List.set_cons_zero, List.set_cons_succ]
  refine wpAnyH_take (fuel := 5) (i := 16) (v := ?_) rfl (by kernel_rfl) (by kernel_rfl) (by kernel_rfl) (fun _ _ _ h => h) (Or.inl ⟨by rfl, ?_⟩) (by assumption) ?_
  rotate_left
  · (intro w hSw; (try dsimp only at hSw); go_simp; first | done | with_reducible rfl)
  change wpAnyH _ _ _ _ _ 5 _ (Act.put _ (some 40) _) _
  simp only [Act.put, List.setIfInBounds_toArray, List.set_cons_zero, List.set_cons_succ]
  refine wpAnyH_take (fuel := 4) (i := 17) (v := undef) rfl (by kernel_rfl) (by kernel_rfl) (by kernel_rfl) (fun _ _ _ h => h) (Or.inr ⟨by rfl, rfl⟩) (by assumption) ?_
  change wpAnyH _ _ _ _ _ 4 _ (Act.put _ (some 41) _) _
  simp only [Act.put, List.setIfInBounds_toArray, List.set_cons_zero, List.set_cons_succ]
  refine wpAnyH_take (fuel := 3) (i := 18) (v := undef) rfl (by kernel_rfl) (by kernel_rfl) (by kernel_rfl) (fun _ _ _ h => h) (Or.inr ⟨by rfl, rfl⟩) (by assumption) ?_
  change wpAnyH _ _ _ _ _ 3 _ (Act.put _ (some 42) _) _
  simp only [Act.put, List.setIfInBounds_toArray, List.set_cons_zero, List.set_cons_succ]
  refine wpAnyH_take (fuel := 2) (i := 19) (v := undef) rfl (by kernel_rfl) (by kernel_rfl) (by kernel_rfl) (fun _ _ _ h => h) (Or.inr ⟨by rfl, rfl⟩) (by assumption) ?_
  change wpAnyH _ _ _ _ _ 2 _ (Act.put _ (some 43) _) _
  simp only [Act.put, List.setIfInBounds_toArray, List.set_cons_zero, List.set_cons_succ]
  refine wpAnyH_take (fuel := 1) (i := 20) (v := ?_) rfl (by kernel_rfl) (by kernel_rfl) (by kernel_rfl) (fun _ _ _ h => h) (Or.inl ⟨by rfl, ?_⟩) (by assumption) ?_
  rotate_left
  · (intro w hSw; (try dsimp only at hSw); go_simp; first | done | with_reducible rfl)
  change wpAnyH _ _ _ _ _ 1 _ (Act.put _ (some 44) _) _
  simp only [Act.put, List.setIfInBounds_toArray, List.set_cons_zero, List.set_cons_succ]
  refine wpAnyH_take (fuel := 0) (i := 21) (v := ?_) rfl (by kernel_rfl) (by kernel_rfl) (by kernel_rfl) (fun _ _ _ h => h) (Or.inl ⟨by rfl, ?_⟩) (by assumption) ?_
  rotate_left
  · (intro w hSw; (try dsimp only at hSw); go_simp; first | done | with_reducible rfl)
  change wpAnyH _ _ _ _ _ 0 _ (Act.put _ (some 2) _) _
  simp only [Act.put, List.setIfInBounds_toArray, List.set_cons_zero, List.set_cons_succ]
  refine wpAnyH_done (by kernel_rfl) ?_ _
  go_wp2_with fail
  go_ret
  exact ⟨rfl, HN.out⟩

set_option maxHeartbeats 3200000 in
theorem cv_w2_0 (r m0 m1 m2 : Int) (p : Pn) (hpv : validB p = true) (hr : r ≠ 0) (hq : ofI r = (0)) (w : World) (hT : Tab w) : CValidSaid (Ce.mk r m0 m1 m2 2 p) false w := by
  have C1 := fun w => PVK p true hpv w
  have jr : (r != 0) = true := by simpa using hr
  have C2 := fun w => WrittenK (Ce.mk r m0 m1 m2 2 p) true jr w
  have C3 := fun w hT => OfK r (0) hq w hT
  have HT := Lib.hid hT
  clear hpv hr jr hq hT
  go_enter Tryd.func39, Tryd.ntmps39
  go_wp2_with fail
  have HN : Hid (New w (w.alloc (.cells (Ce.mk r m0 m1 m2 2 p).cs 30))) := Lib.hid (New.alloc _)
  have HB := Lib.hid (Blk.new w 30 (Ce.mk r m0 m1 m2 2 p).cs)
  generalize w.alloc (.cells (Ce.mk r m0 m1 m2 2 p).cs 30) = W at *
  generalize w.heap.size = g at *
  refine (C1 _).mono ?_
  rintro e w1 ⟨rfl, hn⟩
  have HN := Lib.hid (HN.out.trans hn)
  have HB := Lib.hid (HB.out.fr hn (fun h => h))
  clear hn
  obtain ⟨d0, d1, d2, d3, d4, d5, d6, d7, d8, d9, d10, d11, d12, d13, d14, d15⟩ := HB.out.sixteen
  go_wp2_with fail
  refine (C2 _).mono ?_
  rintro e w1 ⟨rfl, hn⟩
  have HN := Lib.hid (HN.out.trans hn)
  have HB := Lib.hid (HB.out.fr hn (fun h => h))
  clear hn d0 d1 d2 d3 d4 d5 d6 d7 d8 d9 d10 d11 d12 d13 d14 d15
  obtain ⟨d0, d1, d2, d3, d4, d5, d6, d7, d8, d9, d10, d11, d12, d13, d14, d15⟩ := HB.out.sixteen
  go_wp2_with fail
  clear d0 d1 d2 d3 d4 d5 d6 d7 d8 d9 d10 d11 d12 d13 d14 d15
  refine wp_region_held_drew (S := (fun w' => w'.cell? ⟨g, 0, none⟩ = some (.int .i32 r) ∧ w'.cell? ⟨g, 1, none⟩ = some (.int .i32 m0) ∧ w'.cell? ⟨g, 2, none⟩ = some (.int .i32 m1) ∧ w'.cell? ⟨g, 3, none⟩ = some (.int .i32 m2) ∧ w'.cell? ⟨g, 4, none⟩ = some (.int .i64 2) ∧ w'.cell? ⟨g, 5, none⟩ = some (.int .i64 p.fore.k) ∧ w'.cell? ⟨g, 6, none⟩ = some (.int .u8 p.fore.i) ∧ w'.cell? ⟨g, 7, none⟩ = some (.int .u8 p.fore.r) ∧ w'.cell? ⟨g, 8, none⟩ = some (.int .u8 p.fore.g) ∧ w'.cell? ⟨g, 9, none⟩ = some (.int .u8 p.fore.b) ∧ w'.cell? ⟨g, 10, none⟩ = some (.int .i64 p.back.k) ∧ w'.cell? ⟨g, 11, none⟩ = some (.int .u8 p.back.i) ∧ w'.cell? ⟨g, 12, none⟩ = some (.int .u8 p.back.r) ∧ w'.cell? ⟨g, 13, none⟩ = some (.int .u8 p.back.g) ∧ w'.cell? ⟨g, 14, none⟩ = some (.int .u8 p.back.b) ∧ w'.cell? ⟨g, 15, none⟩ = some (.int .u8 p.fl))) (by kernel_rfl) ?_ (fun hHeld => ?_)
  · exact HB.out.sixteen
  refine wpAnyH_take (fuel := 21) (i := 0) (v := ?_) rfl (by kernel_rfl) (by kernel_rfl) (by kernel_rfl) (fun _ _ _ h => h) (Or.inl ⟨by rfl, ?_⟩) (by assumption) ?_
  rotate_left
  · (intro w hSw; (try dsimp only at hSw); go_simp; first | done | with_reducible rfl)
  change wpAnyH _ _ _ _ _ 21 _ (Act.put _ (some 24) _) _
  simp only [Act.put, List.setIfInBounds_toArray, List.set_cons_zero, List.set_cons_succ]
  refine wpAnyH_take (fuel := 20) (i := 1) (v := ?_) rfl (by kernel_rfl) (by kernel_rfl) (by kernel_rfl) (fun _ _ _ h => h) (Or.inl ⟨by rfl, ?_⟩) (by assumption) ?_
  rotate_left
  · (intro w hSw; (try dsimp only at hSw); go_simp; first | done | with_reducible rfl)
  change wpAnyH _ _ _ _ _ 20 _ (Act.put _ (some 25) _) _
  simp only [Act.put, List.setIfInBounds_toArray, List.set_cons_zero, List.set_cons_succ]
  refine wpAnyH_take (fuel := 19) (i := 2) (v := ?_) rfl (by kernel_rfl) (by kernel_rfl) (by kernel_rfl) (fun _ _ _ h => h) (Or.inl ⟨by rfl, ?_⟩) (by assumption) ?_
  rotate_left
  · (intro w hSw; (try dsimp only at hSw); go_simp; first | done | with_reducible rfl)
  change wpAnyH _ _ _ _ _ 19 _ (Act.put _ (some 26) _) _
  simp only [Act.put, List.setIfInBounds_toArray, List.set_cons_zero, List.set_cons_succ]
  refine wpAnyH_take (fuel := 18) (i := 3) (v := ?_) rfl (by kernel_rfl) (by kernel_rfl) (by kernel_rfl) (fun _ _ _ h => h) (Or.inl ⟨by rfl, ?_⟩) (by assumption) ?_
  rotate_left
  · (intro w hSw; (try dsimp only at hSw); go_simp; first | done | with_reducible rfl)
  change wpAnyH _ _ _ _ _ 18 _ (Act.put _ (some 27) _) _
  simp only [Act.put, List.setIfInBounds_toArray, List.set_cons_zero, List.set_cons_succ]
  refine wpAnyH_take (fuel := 17) (i := 4) (v := ?_) rfl (by kernel_rfl) (by kernel_rfl) (by kernel_rfl) (fun _ _ _ h => h) (Or.inl ⟨by rfl, ?_⟩) (by assumption) ?_
  rotate_left
  · (intro w hSw; (try dsimp only at hSw); go_simp; first | done | with_reducible rfl)
  change wpAnyH _ _ _ _ _ 17 _ (Act.put _ (some 28) _) _
  simp only [Act.put, List.setIfInBounds_toArray, List.set_cons_zero, List.set_cons_succ]
  refine wpAnyH_take (fuel := 16) (i := 5) (v := ?_) rfl (by kernel_rfl) (by kernel_rfl) (by kernel_rfl) (fun _ _ _ h => h) (Or.inl ⟨by rfl, ?_⟩) (by assumption) ?_
  rotate_left
  · (intro w hSw; (try dsimp only at hSw); go_simp; first | done | with_reducible rfl)
  change wpAnyH _ _ _ _ _ 16 _ (Act.put _ (some 29) _) _
  simp only [Act.put, List.setIfInBounds_toArray, List.set_cons_zero, List.set_cons_succ]
  refine wpAnyH_take (fuel := 15) (i := 6) (v := ?_) rfl (by kernel_rfl) (by kernel_rfl) (by kernel_rfl) (fun _ _ _ h => h) (Or.inl ⟨by rfl, ?_⟩) (by assumption) ?_
  rotate_left
  · (intro w hSw; (try dsimp only at hSw); go_simp; first | done | with_reducible rfl)
  change wpAnyH _ _ _ _ _ 15 _ (Act.put _ (some 30) _) _
  simp only [Act.put, List.setIfInBounds_toArray, List.set_cons_zero, List.set_cons_succ]
  refine wpAnyH_take (fuel := 14) (i := 7) (v := ?_) rfl (by kernel_rfl) (by kernel_rfl) (by kernel_rfl) (fun _ _ _ h => h) (Or.inl ⟨by rfl, ?_⟩) (by assumption) ?_
  rotate_left
  · (intro w hSw; (try dsimp only at hSw); go_simp; first | done | with_reducible rfl)
  change wpAnyH _ _ _ _ _ 14 _ (Act.put _ (some 31) _) _
  simp only [Act.put, List.setIfInBounds_toArray, List.set_cons_zero, List.set_cons_succ]
  refine wpAnyH_take (fuel := 13) (i := 8) (v := ?_) rfl (by kernel_rfl) (by kernel_rfl) (by kernel_rfl) (fun _ _ _ h => h) (Or.inl ⟨by rfl, ?_⟩) (by assumption) ?_
  rotate_left
  · (intro w hSw; (try dsimp only at hSw); go_simp; first | done | with_reducible rfl)
  change wpAnyH _ _ _ _ _ 13 _ (Act.put _ (some 32) _) _
  simp only [Act.put, List.setIfInBounds_toArray, List.set_cons_zero, List.set_cons_succ]
  refine wpAnyH_take (fuel := 12) (i := 9) (v := ?_) rfl (by kernel_rfl) (by kernel_rfl) (by kernel_rfl) (fun _ _ _ h => h) (Or.inl ⟨by rfl, ?_⟩) (by assumption) ?_
  rotate_left
  · (intro w hSw; (try dsimp only at hSw); go_simp; first | done | with_reducible rfl)
  change wpAnyH _ _ _ _ _ 12 _ (Act.put _ (some 33) _) _
  simp only [Act.put, List.setIfInBounds_toArray, List.set_cons_zero, List.set_cons_succ]
  refine wpAnyH_take (fuel := 11) (i := 10) (v := ?_) rfl (by kernel_rfl) (by kernel_rfl) (by kernel_rfl) (fun _ _ _ h => h) (Or.inl ⟨by rfl, ?_⟩) (by assumption) ?_
  rotate_left
  · (intro w hSw; (try dsimp only at hSw); go_simp; first | done | with_reducible rfl)
  change wpAnyH _ _ _ _ _ 11 _ (Act.put _ (some 34) _) _
  simp only [Act.put, List.setIfInBounds_toArray, List.set_cons_zero, List.set_cons_succ]
  refine wpAnyH_take (fuel := 10) (i := 11) (v := ?_) rfl (by kernel_rfl) (by kernel_rfl) (by kernel_rfl) (fun _ _ _ h => h) (Or.inl ⟨by rfl, ?_⟩) (by assumption) ?_
  rotate_left
  · (intro w hSw; (try dsimp only at hSw); go_simp; first | done | with_reducible rfl)
  change wpAnyH _ _ _ _ _ 10 _ (Act.put _ (some 35) _) _
  simp only [Act.put, List.setIfInBounds_toArray, List.set_cons_zero, List.set_cons_succ]
  refine wpAnyH_take (fuel := 9) (i := 12) (v := ?_) rfl (by kernel_rfl) (by kernel_rfl) (by kernel_rfl) (fun _ _ _ h => h) (Or.inl ⟨by rfl, ?_⟩) (by assumption) ?_
  rotate_left
  · (intro w hSw; (try dsimp only at hSw); go_simp; first | done | with_reducible rfl)
  change wpAnyH _ _ _ _ _ 9 _ (Act.put _ (some 36) _) _
  simp only [Act.put, List.setIfInBounds_toArray, List.set_cons_zero, List.set_cons_succ]
  refine allH (fuel := 8) (i := 13) (by kernel_rfl) rfl (by rfl) ?_
  intro K hK
  refine wp_callF (f := 53) Tryd.func53 (by kernel_rfl) rfl rfl (vs := #[.int .i32 r]) (by simp only [List.map_toArray, List.map_cons, List.map_nil]; rfl) ?_
  refine (C3 _ (HT.out.new HN.out).drew).mono ?_
  rintro e w2 ⟨rfl, hn⟩
  refine ⟨_, rfl, hK _ _ ((HB.out.drew.fr hn (fun h => h)).sixteen) ?_⟩
  clear hK K hHeld
  have hHeld := (HB.out.drew.fr hn (fun h => h)).sixteen
  have HB := Lib.hid (HB.out.drew.fr hn (fun h => h))
  have HN := Lib.hid (HN.out.trans hn.of_drew)
  clear hn
  change wpAnyH _ _ _ _ _ 8 _ (Act.put _ (some 37) _) _
  simp only [Act.put, List.setIfInBounds_toArray, List.set_cons_zero, List.set_cons_succ]
  refine wpAnyH_take (fuel := 7) (i := 14) (v := ?_) rfl (by kernel_rfl) (by kernel_rfl) (by kernel_rfl) (fun _ _ _ h => h) (Or.inl ⟨by rfl, ?_⟩) (by assumption) ?_
  rotate_left
  · (intro w hSw; (try dsimp only at hSw); go_simp; first | done | with_reducible rfl)
  change wpAnyH _ _ _ _ _ 7 _ (Act.put _ (some 38) _) _
  simp only [Act.put, List.setIfInBounds_toArray, List.set_cons_zero, List.set_cons_succ]
  refine wpAnyH_take (fuel := 6) (i := 15) (v := ?_) rfl (by kernel_rfl) (by kernel_rfl) (by kernel_rfl) (fun _ _ _ h => h) (Or.inl ⟨by rfl, ?_⟩) (by assumption) ?_
  rotate_left
  · (intro w hSw; (try dsimp only at hSw); go_simp; first | done | with_reducible rfl)
  change wpAnyH _ _ _ _ _ 6 _ (Act.put _ (some 39) _) _
  simp only [Act.put, List.setIfInBounds_toArray, List.set_cons_zero, List.set_cons_succ]
  refine wpAnyH_take (fuel := 5) (i := 16) (v := ?_) rfl (by kernel_rfl) (by kernel_rfl) (by kernel_rfl) (fun _ _ _ h => h) (Or.inl ⟨by rfl, ?_⟩) (by assumption) ?_
  rotate_left
  · (intro w hSw; (try dsimp only at hSw); go_simp; first | done | with_reducible rfl)
  change wpAnyH _ _ _ _ _ 5 _ (Act.put _ (some 40) _) _
  simp only [Act.put, List.setIfInBounds_toArray, List.set_cons_zero, List.set_cons_succ]
  refine wpAnyH_take (fuel := 4) (i := 17) (v := undef) rfl (by kernel_rfl) (by kernel_rfl) (by kernel_rfl) (fun _ _ _ h => h) (Or.inr ⟨by rfl, rfl⟩) (by assumption) ?_
  change wpAnyH _ _ _ _ _ 4 _ (Act.put _ (some 41) _) _
  simp only [Act.put, List.setIfInBounds_toArray, List.set_cons_zero, List.set_cons_succ]
  refine wpAnyH_take (fuel := 3) (i := 18) (v := undef) rfl (by kernel_rfl) (by kernel_rfl) (by kernel_rfl) (fun _ _ _ h => h) (Or.inr ⟨by rfl, rfl⟩) (by assumption) ?_
  change wpAnyH _ _ _ _ _ 3 _ (Act.put _ (some 42) _) _
  simp only [Act.put, List.setIfInBounds_toArray, List.set_cons_zero, List.set_cons_succ]
  refine wpAnyH_take (fuel := 2) (i := 19) (v := undef) rfl (by kernel_rfl) (by kernel_rfl) (by kernel_rfl) (fun _ _ _ h => h) (Or.inr ⟨by rfl, rfl⟩) (by assumption) ?_
  change wpAnyH _ _ _ _ _ 2 _ (Act.put _ (some 43) _) _
  simp only [Act.put, List.setIfInBounds_toArray, List.set_cons_zero, List.set_cons_succ]
  refine wpAnyH_take (fuel := 1) (i := 20) (v := ?_) rfl (by kernel_rfl) (by kernel_rfl) (by kernel_rfl) (fun _ _ _ h => h) (Or.inl ⟨by rfl, ?_⟩) (by assumption) ?_
  rotate_left
  · (intro w hSw; (try dsimp only at hSw); go_simp; first | done | with_reducible rfl)
  change wpAnyH _ _ _ _ _ 1 _ (Act.put _ (some 44) _) _
  simp only [Act.put, List.setIfInBounds_toArray, List.set_cons_zero, List.set_cons_succ]
  refine wpAnyH_take (fuel := 0) (i := 21) (v := ?_) rfl (by kernel_rfl) (by kernel_rfl) (by kernel_rfl) (fun _ _ _ h => h) (Or.inl ⟨by rfl, ?_⟩) (by assumption) ?_
  rotate_left
  · (intro w hSw; (try dsimp only at hSw); go_simp; first | done | with_reducible rfl)
  change wpAnyH _ _ _ _ _ 0 _ (Act.put _ (some 2) _) _
  simp only [Act.put, List.setIfInBounds_toArray, List.set_cons_zero, List.set_cons_succ]
  refine wpAnyH_done (by kernel_rfl) ?_ _
  go_wp2_with fail
  go_ret
  exact ⟨rfl, HN.out⟩

set_option maxHeartbeats 3200000 in
theorem cv_w2_1 (r m0 m1 m2 : Int) (p : Pn) (hpv : validB p = true) (hr : r ≠ 0) (hq : ofI r = (1)) (w : World) (hT : Tab w) : CValidSaid (Ce.mk r m0 m1 m2 2 p) false w := by
  have C1 := fun w => PVK p true hpv w
  have jr : (r != 0) = true := by simpa using hr
  have C2 := fun w => WrittenK (Ce.mk r m0 m1 m2 2 p) true jr w
  have C3 := fun w hT => OfK r (1) hq w hT
  have HT := Lib.hid hT
  clear hpv hr jr hq hT
  go_enter Tryd.func39, Tryd.ntmps39
  go_wp2_with fail
  have HN : Hid (New w (w.alloc (.cells (Ce.mk r m0 m1 m2 2 p).cs 30))) := Lib.hid (New.alloc _)
  have HB := Lib.hid (Blk.new w 30 (Ce.mk r m0 m1 m2 2 p).cs)
  generalize w.alloc (.cells (Ce.mk r m0 m1 m2 2 p).cs 30) = W at *
  generalize w.heap.size = g at *
  refine (C1 _).mono ?_
  rintro e w1 ⟨rfl, hn⟩
  have HN := Lib.hid (HN.out.trans hn)
  have HB := Lib.hid (HB.out.fr hn (fun h => h))
  clear hn
  obtain ⟨d0, d1, d2, d3, d4, d5, d6, d7, d8, d9, d10, d11, d12, d13, d14, d15⟩ := HB.out.sixteen
  go_wp2_with fail
  refine (C2 _).mono ?_
  rintro e w1 ⟨rfl, hn⟩
  have HN := Lib.hid (HN.out.trans hn)
  have HB := Lib.hid (HB.out.fr hn (fun h => h))
  clear hn d0 d1 d2 d3 d4 d5 d6 d7 d8 d9 d10 d11 d12 d13 d14 d15
  obtain ⟨d0, d1, d2, d3, d4, d5, d6, d7, d8, d9, d10, d11, d12, d13, d14, d15⟩ := HB.out.sixteen
  go_wp2_with fail
  clear d0 d1 d2 d3 d4 d5 d6 d7 d8 d9 d10 d11 d12 d13 d14 d15
  refine wp_region_held_drew (S := (fun w' => w'.cell? ⟨g, 0, none⟩ = some (.int .i32 r) ∧ w'.cell? ⟨g, 1, none⟩ = some (.int .i32 m0) ∧ w'.cell? ⟨g, 2, none⟩ = some (.int .i32 m1) ∧ w'.cell? ⟨g, 3, none⟩ = some (.int .i32 m2) ∧ w'.cell? ⟨g, 4, none⟩ = some (.int .i64 2) ∧ w'.cell? ⟨g, 5, none⟩ = some (.int .i64 p.fore.k) ∧ w'.cell? ⟨g, 6, none⟩ = some (.int .u8 p.fore.i) ∧ w'.cell? ⟨g, 7, none⟩ = some (.int .u8 p.fore.r) ∧ w'.cell? ⟨g, 8, none⟩ = some (.int .u8 p.fore.g) ∧ w'.cell? ⟨g, 9, none⟩ = some (.int .u8 p.fore.b) ∧ w'.cell? ⟨g, 10, none⟩ = some (.int .i64 p.back.k) ∧ w'.cell? ⟨g, 11, none⟩ = some (.int .u8 p.back.i) ∧ w'.cell? ⟨g, 12, none⟩ = some (.int .u8 p.back.r) ∧ w'.cell? ⟨g, 13, none⟩ = some (.int .u8 p.back.g) ∧ w'.cell? ⟨g, 14, none⟩ = some (.int .u8 p.back.b) ∧ w'.cell? ⟨g, 15, none⟩ = some (.int .u8 p.fl))) (by kernel_rfl) ?_ (fun hHeld => ?_)
  · exact HB.out.sixteen
  refine wpAnyH_take (fuel := 21) (i := 0) (v := ?_) rfl (by kernel_rfl) (by kernel_rfl) (by kernel_rfl) (fun _ _ _ h => h) (Or.inl ⟨by rfl, ?_⟩) (by assumption) ?_
  rotate_left
  · (intro w hSw; (try dsimp only at hSw); go_simp; first | done | with_reducible rfl)
  change wpAnyH _ _ _ _ _ 21 _ (Act.put _ (some 24) _) _
  simp only [Act.put, List.setIfInBounds_toArray, List.set_cons_zero, List.set_cons_succ]
  refine wpAnyH_take (fuel := 20) (i := 1) (v := ?_) rfl (by kernel_rfl) (by kernel_rfl) (by kernel_rfl) (fun _ _ _ h => h) (Or.inl ⟨by rfl, ?_⟩) (by assumption) ?_
  rotate_left
  · (intro w hSw; (try dsimp only at hSw); go_simp; first | done | with_reducible rfl)
  change wpAnyH _ _ _ _ _ 20 _ (Act.put _ (some 25) _) _
  simp only [Act.put, List.setIfInBounds_toArray, List.set_cons_zero, List.set_cons_succ]
  refine wpAnyH_take (fuel := 19) (i := 2) (v := ?_) rfl (by kernel_rfl) (by kernel_rfl) (by kernel_rfl) (fun _ _ _ h => h) (Or.inl ⟨by rfl, ?_⟩) (by assumption) ?_
  rotate_left
  · (intro w hSw; (try dsimp only at hSw); go_simp; first | done | with_reducible rfl)
  change wpAnyH _ _ _ _ _ 19 _ (Act.put _ (some 26) _) _
  simp only [Act.put, List.setIfInBounds_toArray, List.set_cons_zero, List.set_cons_succ]
  refine wpAnyH_take (fuel := 18) (i := 3) (v := ?_) rfl (by kernel_rfl) (by kernel_rfl) (by kernel_rfl) (fun _ _ _ h => h) (Or.inl ⟨by rfl, ?_⟩) (by assumption) ?_
  rotate_left
  · (intro w hSw; (try dsimp only at hSw); go_simp; first | done | with_reducible rfl)
  change wpAnyH _ _ _ _ _ 18 _ (Act.put _ (some 27) _) _
  simp only [Act.put, List.setIfInBounds_toArray, List.set_cons_zero, List.set_cons_succ]
  refine wpAnyH_take (fuel := 17) (i := 4) (v := ?_) rfl (by kernel_rfl) (by kernel_rfl) (by kernel_rfl) (fun _ _ _ h => h) (Or.inl ⟨by rfl, ?_⟩) (by assumption) ?_
  rotate_left
  · (intro w hSw; (try dsimp only at hSw); go_simp; first | done | with_reducible rfl)
  change wpAnyH _ _ _ _ _ 17 _ (Act.put _ (some 28) _) _
  simp only [Act.put, List.setIfInBounds_toArray, List.set_cons_zero, List.set_cons_succ]
  refine wpAnyH_take (fuel := 16) (i := 5) (v := ?_) rfl (by kernel_rfl) (by kernel_rfl) (by kernel_rfl) (fun _ _ _ h => h) (Or.inl ⟨by rfl, ?_⟩) (by assumption) ?_
  rotate_left
  · (intro w hSw; (try dsimp only at hSw); go_simp; first | done | with_reducible rfl)
  change wpAnyH _ _ _ _ _ 16 _ (Act.put _ (some 29) _) _
  simp only [Act.put, List.setIfInBounds_toArray, List.set_cons_zero, List.set_cons_succ]
  refine wpAnyH_take (fuel := 15) (i := 6) (v := ?_) rfl (by kernel_rfl) (by kernel_rfl) (by kernel_rfl) (fun _ _ _ h => h) (Or.inl ⟨by rfl, ?_⟩) (by assumption) ?_
  rotate_left
  · (intro w hSw; (try dsimp only at hSw); go_simp; first | done | with_reducible rfl)
  change wpAnyH _ _ _ _ _ 15 _ (Act.put _ (some 30) _) _
  simp only [Act.put, List.setIfInBounds_toArray, List.set_cons_zero, List.set_cons_succ]
  refine wpAnyH_take (fuel := 14) (i := 7) (v := ?_) rfl (by kernel_rfl) (by kernel_rfl) (by kernel_rfl) (fun _ _ _ h => h) (Or.inl ⟨by rfl, ?_⟩) (by assumption) ?_
  rotate_left
  · (intro w hSw; (try dsimp only at hSw); go_simp; first | done | with_reducible rfl)
  change wpAnyH _ _ _ _ _ 14 _ (Act.put _ (some 31) _) _
  simp only [Act.put, List.setIfInBounds_toArray, List.set_cons_zero, List.set_cons_succ]
  refine wpAnyH_take (fuel := 13) (i := 8) (v := ?_) rfl (by kernel_rfl) (by kernel_rfl) (by kernel_rfl) (fun _ _ _ h => h) (Or.inl ⟨by rfl, ?_⟩) (by assumption) ?_
  rotate_left
  · (intro w hSw; (try dsimp only at hSw); go_simp; first | done | with_reducible rfl)
  change wpAnyH _ _ _ _ _ 13 _ (Act.put _ (some 32) _) _
  simp only [Act.put, List.setIfInBounds_toArray, List.set_cons_zero, List.set_cons_succ]
  refine wpAnyH_take (fuel := 12) (i := 9) (v := ?_) rfl (by kernel_rfl) (by kernel_rfl) (by kernel_rfl) (fun _ _ _ h => h) (Or.inl ⟨by rfl, ?_⟩) (by assumption) ?_
  rotate_left
  · (intro w hSw; (try dsimp only at hSw); go_simp; first | done | with_reducible rfl)
  change wpAnyH _ _ _ _ _ 12 _ (Act.put _ (some 33) _) _
  simp only [Act.put, List.setIfInBounds_toArray, List.set_cons_zero, List.set_cons_succ]
  refine wpAnyH_take (fuel := 11) (i := 10) (v := ?_) rfl (by kernel_rfl) (by kernel_rfl) (by kernel_rfl) (fun _ _ _ h => h) (Or.inl ⟨by rfl, ?_⟩) (by assumption) ?_
  rotate_left
  · (intro w hSw; (try dsimp only at hSw); go_simp; first | done | with_reducible rfl)
  change wpAnyH _ _ _ _ _ 11 _ (Act.put _ (some 34) _) _
  simp only [Act.put, List.setIfInBounds_toArray, List.set_cons_zero, List.set_cons_succ]
  refine wpAnyH_take (fuel := 10) (i := 11) (v := ?_) rfl (by kernel_rfl) (by kernel_rfl) (by kernel_rfl) (fun _ _ _ h => h) (Or.inl ⟨by rfl, ?_⟩) (by assumption) ?_
  rotate_left
  · (intro w hSw; (try dsimp only at hSw); go_simp; first | done | with_reducible rfl)
  change wpAnyH _ _ _ _ _ 10 _ (Act.put _ (some 35) _) _
  simp only [Act.put, List.setIfInBounds_toArray, List.set_cons_zero, List.set_cons_succ]
  refine wpAnyH_take (fuel := 9) (i := 12) (v := ?_) rfl (by kernel_rfl) (by kernel_rfl) (by kernel_rfl) (fun _ _ _ h => h) (Or.inl ⟨by rfl, ?_⟩) (by assumption) ?_
  rotate_left
  · (intro w hSw; (try dsimp only at hSw); go_simp; first | done | with_reducible rfl)
  change wpAnyH _ _ _ _ _ 9 _ (Act.put _ (some 36) _) _
  simp only [Act.put, List.setIfInBounds_toArray, List.set_cons_zero, List.set_cons_succ]
  refine allH (fuel := 8) (i := 13) (by kernel_rfl) rfl (by rfl) ?_
  intro K hK
  refine wp_callF (f := 53) Tryd.func53 (by kernel_rfl) rfl rfl (vs := #[.int .i32 r]) (by simp only [List.map_toArray, List.map_cons, List.map_nil]; rfl) ?_
  refine (C3 _ (HT.out.new HN.out).drew).mono ?_
  rintro e w2 ⟨rfl, hn⟩
  refine ⟨_, rfl, hK _ _ ((HB.out.drew.fr hn (fun h => h)).sixteen) ?_⟩
  clear hK K hHeld
  have hHeld := (HB.out.drew.fr hn (fun h => h)).sixteen
  have HB := Lib.hid (HB.out.drew.fr hn (fun h => h))
  have HN := Lib.hid (HN.out.trans hn.of_drew)
  clear hn
  change wpAnyH _ _ _ _ _ 8 _ (Act.put _ (some 37) _) _
  simp only [Act.put, List.setIfInBounds_toArray, List.set_cons_zero, List.set_cons_succ]
  refine wpAnyH_take (fuel := 7) (i := 14) (v := ?_) rfl (by kernel_rfl) (by kernel_rfl) (by kernel_rfl) (fun _ _ _ h => h) (Or.inl ⟨by rfl, ?_⟩) (by assumption) ?_
  rotate_left
  · (intro w hSw; (try dsimp only at hSw); go_simp; first | done | with_reducible rfl)
  change wpAnyH _ _ _ _ _ 7 _ (Act.put _ (some 38) _) _
  simp only [Act.put, List.setIfInBounds_toArray, List.set_cons_zero, List.set_cons_succ]
  refine wpAnyH_take (fuel := 6) (i := 15) (v := ?_) rfl (by kernel_rfl) (by kernel_rfl) (by kernel_rfl) (fun _ _ _ h => h) (Or.inl ⟨by rfl, ?_⟩) (by assumption) ?_
  rotate_left
  · (intro w hSw; (try dsimp only at hSw); go_simp; first | done | with_reducible rfl)
  change wpAnyH _ _ _ _ _ 6 _ (Act.put _ (some 39) _) _
  simp only [Act.put, List.setIfInBounds_toArray, List.set_cons_zero, List.set_cons_succ]
  refine wpAnyH_take (fuel := 5) (i := 16) (v := ?_) rfl (by kernel_rfl) (by kernel_rfl) (by kernel_rfl) (fun _ _ _ h => h) (Or.inl ⟨by rfl, ?_⟩) (by assumption) ?_
  rotate_left
  · (intro w hSw; (try dsimp only at hSw); go_simp; first | done | with_reducible rfl)
  change wpAnyH _ _ _ _ _ 5 _ (Act.put _ (some 40) _) _
  simp only [Act.put, List.setIfInBounds_toArray, List.set_cons_zero, List.set_cons_succ]
  refine wpAnyH_take (fuel := 4) (i := 17) (v := undef) rfl (by kernel_rfl) (by kernel_rfl) (by kernel_rfl) (fun _ _ _ h => h) (Or.inr ⟨by rfl, rfl⟩) (by assumption) ?_
  change wpAnyH _ _ _ _ _ 4 _ (Act.put _ (some 41) _) _
  simp only [Act.put, List.setIfInBounds_toArray, List.set_cons_zero, List.set_cons_succ]
  refine wpAnyH_take (fuel := 3) (i := 18) (v := undef) rfl (by kernel_rfl) (by kernel_rfl) (by kernel_rfl) (fun _ _ _ h => h) (Or.inr ⟨by rfl, rfl⟩) (by assumption) ?_
  change wpAnyH _ _ _ _ _ 3 _ (Act.put _ (some 42) _) _
  simp only [Act.put, List.setIfInBounds_toArray, List.set_cons_zero, List.set_cons_succ]
  refine wpAnyH_take (fuel := 2) (i := 19) (v := undef) rfl (by kernel_rfl) (by kernel_rfl) (by kernel_rfl) (fun _ _ _ h => h) (Or.inr ⟨by rfl, rfl⟩) (by assumption) ?_
  change wpAnyH _ _ _ _ _ 2 _ (Act.put _ (some 43) _) _
  simp only [Act.put, List.setIfInBounds_toArray, List.set_cons_zero, List.set_cons_succ]
  refine wpAnyH_take (fuel := 1) (i := 20) (v := ?_) rfl (by kernel_rfl) (by kernel_rfl) (by kernel_rfl) (fun _ _ _ h => h) (Or.inl ⟨by rfl, ?_⟩) (by assumption) ?_
  rotate_left
  · (intro w hSw; (try dsimp only at hSw); go_simp; first | done | with_reducible rfl)
  change wpAnyH _ _ _ _ _ 1 _ (Act.put _ (some 44) _) _
  simp only [Act.put, List.setIfInBounds_toArray, List.set_cons_zero, List.set_cons_succ]
  refine wpAnyH_take (fuel := 0) (i := 21) (v := ?_) rfl (by kernel_rfl) (by kernel_rfl) (by kernel_rfl) (fun _ _ _ h => h) (Or.inl ⟨by rfl, ?_⟩) (by assumption) ?_
  rotate_left
  · (intro w hSw; (try dsimp only at hSw); go_simp; first | done | with_reducible rfl)
  change wpAnyH _ _ _ _ _ 0 _ (Act.put _ (some 2) _) _
  simp only [Act.put, List.setIfInBounds_toArray, List.set_cons_zero, List.set_cons_succ]
  refine wpAnyH_done (by kernel_rfl) ?_ _
  go_wp2_with fail
  go_ret
  exact ⟨rfl, HN.out⟩

set_option maxHeartbeats 3200000 in
theorem cv_w2_2 (r m0 m1 m2 : Int) (p : Pn) (hpv : validB p = true) (hr : r ≠ 0) (hq : ofI r = (2)) (w : World) (hT : Tab w) : CValidSaid (Ce.mk r m0 m1 m2 2 p) (okM (Ce.mk r m0 m1 m2 2 p)) w := by
  have C1 := fun w => PVK p true hpv w
  have jr : (r != 0) = true := by simpa using hr
  have C2 := fun w => WrittenK (Ce.mk r m0 m1 m2 2 p) true jr w
  have C3 := fun w hT => OfK r (2) hq w hT
  have HT := Lib.hid hT
  have C4 := fun w hT => areMarks_any (Ce.mk r m0 m1 m2 2 p) w hT
  clear hpv hr jr hq hT
  go_enter Tryd.func39, Tryd.ntmps39
  go_wp2_with fail
  have HN : Hid (New w (w.alloc (.cells (Ce.mk r m0 m1 m2 2 p).cs 30))) := Lib.hid (New.alloc _)
  have HB := Lib.hid (Blk.new w 30 (Ce.mk r m0 m1 m2 2 p).cs)
  generalize w.alloc (.cells (Ce.mk r m0 m1 m2 2 p).cs 30) = W at *
  generalize w.heap.size = g at *
  refine (C1 _).mono ?_
  rintro e w1 ⟨rfl, hn⟩
  have HN := Lib.hid (HN.out.trans hn)
  have HB := Lib.hid (HB.out.fr hn (fun h => h))
  clear hn
  obtain ⟨d0, d1, d2, d3, d4, d5, d6, d7, d8, d9, d10, d11, d12, d13, d14, d15⟩ := HB.out.sixteen
  go_wp2_with fail
  refine (C2 _).mono ?_
  rintro e w1 ⟨rfl, hn⟩
  have HN := Lib.hid (HN.out.trans hn)
  have HB := Lib.hid (HB.out.fr hn (fun h => h))
  clear hn d0 d1 d2 d3 d4 d5 d6 d7 d8 d9 d10 d11 d12 d13 d14 d15
  obtain ⟨d0, d1, d2, d3, d4, d5, d6, d7, d8, d9, d10, d11, d12, d13, d14, d15⟩ := HB.out.sixteen
  go_wp2_with fail
  clear d0 d1 d2 d3 d4 d5 d6 d7 d8 d9 d10 d11 d12 d13 d14 d15
  refine wp_region_held_drew (S := (fun w' => w'.cell? ⟨g, 0, none⟩ = some (.int .i32 r) ∧ w'.cell? ⟨g, 1, none⟩ = some (.int .i32 m0) ∧ w'.cell? ⟨g, 2, none⟩ = some (.int .i32 m1) ∧ w'.cell? ⟨g, 3, none⟩ = some (.int .i32 m2) ∧ w'.cell? ⟨g, 4, none⟩ = some (.int .i64 2) ∧ w'.cell? ⟨g, 5, none⟩ = some (.int .i64 p.fore.k) ∧ w'.cell? ⟨g, 6, none⟩ = some (.int .u8 p.fore.i) ∧ w'.cell? ⟨g, 7, none⟩ = some (.int .u8 p.fore.r) ∧ w'.cell? ⟨g, 8, none⟩ = some (.int .u8 p.fore.g) ∧ w'.cell? ⟨g, 9, none⟩ = some (.int .u8 p.fore.b) ∧ w'.cell? ⟨g, 10, none⟩ = some (.int .i64 p.back.k) ∧ w'.cell? ⟨g, 11, none⟩ = some (.int .u8 p.back.i) ∧ w'.cell? ⟨g, 12, none⟩ = some (.int .u8 p.back.r) ∧ w'.cell? ⟨g, 13, none⟩ = some (.int .u8 p.back.g) ∧ w'.cell? ⟨g, 14, none⟩ = some (.int .u8 p.back.b) ∧ w'.cell? ⟨g, 15, none⟩ = some (.int .u8 p.fl))) (by kernel_rfl) ?_ (fun hHeld => ?_)
  · exact HB.out.sixteen
  refine wpAnyH_take (fuel := 21) (i := 0) (v := ?_) rfl (by kernel_rfl) (by kernel_rfl) (by kernel_rfl) (fun _ _ _ h => h) (Or.inl ⟨by rfl, ?_⟩) (by assumption) ?_
  rotate_left
  · (intro w hSw; (try dsimp only at hSw); go_simp; first | done | with_reducible rfl)
  change wpAnyH _ _ _ _ _ 21 _ (Act.put _ (some 24) _) _
  simp only [Act.put, List.setIfInBounds_toArray, List.set_cons_zero, List.set_cons_succ]
  refine wpAnyH_take (fuel := 20) (i := 1) (v := ?_) rfl (by kernel_rfl) (by kernel_rfl) (by kernel_rfl) (fun _ _ _ h => h) (Or.inl ⟨by rfl, ?_⟩) (by assumption) ?_
  rotate_left
  · (intro w hSw; (try dsimp only at hSw); go_simp; first | done | with_reducible rfl)
  change wpAnyH _ _ _ _ _ 20 _ (Act.put _ (some 25) _) _
  simp only [Act.put, List.setIfInBounds_toArray, List.set_cons_zero, List.set_cons_succ]
  refine wpAnyH_take (fuel := 19) (i := 2) (v := ?_) rfl (by kernel_rfl) (by kernel_rfl) (by kernel_rfl) (fun _ _ _ h => h) (Or.inl ⟨by rfl, ?_⟩) (by assumption) ?_
  rotate_left
  · (intro w hSw; (try dsimp only at hSw); go_simp; first | done | with_reducible rfl)
  change wpAnyH _ _ _ _ _ 19 _ (Act.put _ (some 26) _) _
  simp only [Act.put, List.setIfInBounds_toArray, List.set_cons_zero, List.set_cons_succ]
  refine wpAnyH_take (fuel := 18) (i := 3) (v := ?_) rfl (by kernel_rfl) (by kernel_rfl) (by kernel_rfl) (fun _ _ _ h => h) (Or.inl ⟨by rfl, ?_⟩) (by assumption) ?_
  rotate_left
  · (intro w hSw; (try dsimp only at hSw); go_simp; first | done | with_reducible rfl)
  change wpAnyH _ _ _ _ _ 18 _ (Act.put _ (some 27) _) _
  simp only [Act.put, List.setIfInBounds_toArray, List.set_cons_zero, List.set_cons_succ]
  refine wpAnyH_take (fuel := 17) (i := 4) (v := ?_) rfl (by kernel_rfl) (by kernel_rfl) (by kernel_rfl) (fun _ _ _ h => h) (Or.inl ⟨by rfl, ?_⟩) (by assumption) ?_
  rotate_left
  · (intro w hSw; (try dsimp only at hSw); go_simp; first | done | with_reducible rfl)
  change wpAnyH _ _ _ _ _ 17 _ (Act.put _ (some 28) _) _
  simp only [Act.put, List.setIfInBounds_toArray, List.set_cons_zero, List.set_cons_succ]
  refine wpAnyH_take (fuel := 16) (i := 5) (v := ?_) rfl (by kernel_rfl) (by kernel_rfl) (by kernel_rfl) (fun _ _ _ h => h) (Or.inl ⟨by rfl, ?_⟩) (by assumption) ?_
  rotate_left
  · (intro w hSw; (try dsimp only at hSw); go_simp; first | done | with_reducible rfl)
  change wpAnyH _ _ _ _ _ 16 _ (Act.put _ (some 29) _) _
  simp only [Act.put, List.setIfInBounds_toArray, List.set_cons_zero, List.set_cons_succ]
  refine wpAnyH_take (fuel := 15) (i := 6) (v := ?_) rfl (by kernel_rfl) (by kernel_rfl) (by kernel_rfl) (fun _ _ _ h => h) (Or.inl ⟨by rfl, ?_⟩) (by assumption) ?_
  rotate_left
  · (intro w hSw; (try dsimp only at hSw); go_simp; first | done | with_reducible rfl)
  change wpAnyH _ _ _ _ _ 15 _ (Act.put _ (some 30) _) _
  simp only [Act.put, List.setIfInBounds_toArray, List.set_cons_zero, List.set_cons_succ]
  refine wpAnyH_take (fuel := 14) (i := 7) (v := ?_) rfl (by kernel_rfl) (by kernel_rfl) (by kernel_rfl) (fun _ _ _ h => h) (Or.inl ⟨by rfl, ?_⟩) (by assumption) ?_
  rotate_left
  · (intro w hSw; (try dsimp only at hSw); go_simp; first | done | with_reducible rfl)
  change wpAnyH _ _ _ _ _ 14 _ (Act.put _ (some 31) _) _
  simp only [Act.put, List.setIfInBounds_toArray, List.set_cons_zero, List.set_cons_succ]
  refine wpAnyH_take (fuel := 13) (i := 8) (v := ?_) rfl (by kernel_rfl) (by kernel_rfl) (by kernel_rfl) (fun _ _ _ h => h) (Or.inl ⟨by rfl, ?_⟩) (by assumption) ?_
  rotate_left
  · (intro w hSw; (try dsimp only at hSw); go_simp; first | done | with_reducible rfl)
  change wpAnyH _ _ _ _ _ 13 _ (Act.put _ (some 32) _) _
  simp only [Act.put, List.setIfInBounds_toArray, List.set_cons_zero, List.set_cons_succ]
  refine wpAnyH_take (fuel := 12) (i := 9) (v := ?_) rfl (by kernel_rfl) (by kernel_rfl) (by kernel_rfl) (fun _ _ _ h => h) (Or.inl ⟨by rfl, ?_⟩) (by assumption) ?_
  rotate_left
  · (intro w hSw; (try dsimp only at hSw); go_simp; first | done | with_reducible rfl)
  change wpAnyH _ _ _ _ _ 12 _ (Act.put _ (some 33) _) _
  simp only [Act.put, List.setIfInBounds_toArray, List.set_cons_zero, List.set_cons_succ]
  refine wpAnyH_take (fuel := 11) (i := 10) (v := ?_) rfl (by kernel_rfl) (by kernel_rfl) (by kernel_rfl) (fun _ _ _ h => h) (Or.inl ⟨by rfl, ?_⟩) (by assumption) ?_
  rotate_left
  · (intro w hSw; (try dsimp only at hSw); go_simp; first | done | with_reducible rfl)
  change wpAnyH _ _ _ _ _ 11 _ (Act.put _ (some 34) _) _
  simp only [Act.put, List.setIfInBounds_toArray, List.set_cons_zero, List.set_cons_succ]
  refine wpAnyH_take (fuel := 10) (i := 11) (v := ?_) rfl (by kernel_rfl) (by kernel_rfl) (by kernel_rfl) (fun _ _ _ h => h) (Or.inl ⟨by rfl, ?_⟩) (by assumption) ?_
  rotate_left
  · (intro w hSw; (try dsimp only at hSw); go_simp; first | done | with_reducible rfl)
  change wpAnyH _ _ _ _ _ 10 _ (Act.put _ (some 35) _) _
  simp only [Act.put, List.setIfInBounds_toArray, List.set_cons_zero, List.set_cons_succ]
  refine wpAnyH_take (fuel := 9) (i := 12) (v := ?_) rfl (by kernel_rfl) (by kernel_rfl) (by kernel_rfl) (fun _ _ _ h => h) (Or.inl ⟨by rfl, ?_⟩) (by assumption) ?_
  rotate_left
  · (intro w hSw; (try dsimp only at hSw); go_simp; first | done | with_reducible rfl)
  change wpAnyH _ _ _ _ _ 9 _ (Act.put _ (some 36) _) _
  simp only [Act.put, List.setIfInBounds_toArray, List.set_cons_zero, List.set_cons_succ]
  refine allH (fuel := 8) (i := 13) (by kernel_rfl) rfl (by rfl) ?_
  intro K hK
  refine wp_callF (f := 53) Tryd.func53 (by kernel_rfl) rfl rfl (vs := #[.int .i32 r]) (by simp only [List.map_toArray, List.map_cons, List.map_nil]; rfl) ?_
  refine (C3 _ (HT.out.new HN.out).drew).mono ?_
  rintro e w2 ⟨rfl, hn⟩
  refine ⟨_, rfl, hK _ _ ((HB.out.drew.fr hn (fun h => h)).sixteen) ?_⟩
  clear hK K hHeld
  have hHeld := (HB.out.drew.fr hn (fun h => h)).sixteen
  have HB := Lib.hid (HB.out.drew.fr hn (fun h => h))
  have HN := Lib.hid (HN.out.trans hn.of_drew)
  clear hn
  change wpAnyH _ _ _ _ _ 8 _ (Act.put _ (some 37) _) _
  simp only [Act.put, List.setIfInBounds_toArray, List.set_cons_zero, List.set_cons_succ]
  refine wpAnyH_take (fuel := 7) (i := 14) (v := ?_) rfl (by kernel_rfl) (by kernel_rfl) (by kernel_rfl) (fun _ _ _ h => h) (Or.inl ⟨by rfl, ?_⟩) (by assumption) ?_
  rotate_left
  · (intro w hSw; (try dsimp only at hSw); go_simp; first | done | with_reducible rfl)
  change wpAnyH _ _ _ _ _ 7 _ (Act.put _ (some 38) _) _
  simp only [Act.put, List.setIfInBounds_toArray, List.set_cons_zero, List.set_cons_succ]
  refine wpAnyH_take (fuel := 6) (i := 15) (v := ?_) rfl (by kernel_rfl) (by kernel_rfl) (by kernel_rfl) (fun _ _ _ h => h) (Or.inl ⟨by rfl, ?_⟩) (by assumption) ?_
  rotate_left
  · (intro w hSw; (try dsimp only at hSw); go_simp; first | done | with_reducible rfl)
  change wpAnyH _ _ _ _ _ 6 _ (Act.put _ (some 39) _) _
  simp only [Act.put, List.setIfInBounds_toArray, List.set_cons_zero, List.set_cons_succ]
  refine wpAnyH_take (fuel := 5) (i := 16) (v := ?_) rfl (by kernel_rfl) (by kernel_rfl) (by kernel_rfl) (fun _ _ _ h => h) (Or.inl ⟨by rfl, ?_⟩) (by assumption) ?_
  rotate_left
  · (intro w hSw; (try dsimp only at hSw); go_simp; first | done | with_reducible rfl)
  change wpAnyH _ _ _ _ _ 5 _ (Act.put _ (some 40) _) _
  simp only [Act.put, List.setIfInBounds_toArray, List.set_cons_zero, List.set_cons_succ]
  refine wpAnyH_take (fuel := 4) (i := 17) (v := ?_) rfl (by kernel_rfl) (by kernel_rfl) (by kernel_rfl) (fun _ _ _ h => h) (Or.inl ⟨by rfl, ?_⟩) (by assumption) ?_
  rotate_left
  · (intro w hSw; (try dsimp only at hSw); go_simp; first | done | with_reducible rfl)
  change wpAnyH _ _ _ _ _ 4 _ (Act.put _ (some 41) _) _
  simp only [Act.put, List.setIfInBounds_toArray, List.set_cons_zero, List.set_cons_succ]
  refine wpAnyH_take (fuel := 3) (i := 18) (v := ?_) rfl (by kernel_rfl) (by kernel_rfl) (by kernel_rfl) (fun _ _ _ h => h) (Or.inl ⟨by rfl, ?_⟩) (by assumption) ?_
  rotate_left
  · (intro w hSw; (try dsimp only at hSw); go_simp; first | done | with_reducible rfl)
  change wpAnyH _ _ _ _ _ 3 _ (Act.put _ (some 42) _) _
  simp only [Act.put, List.setIfInBounds_toArray, List.set_cons_zero, List.set_cons_succ]
  refine allH (fuel := 2) (i := 19) (by kernel_rfl) rfl (by rfl) ?_
  intro K hK
  refine wp_callF (f := 54) Tryd.func54 (by kernel_rfl) rfl rfl (vs := #[.agg #[.int .i32 m0, .int .i32 m1, .int .i32 m2]]) (by simp only [List.map_toArray, List.map_cons, List.map_nil]; rfl) ?_
  refine (C4 _ (HT.out.new HN.out)).mono ?_
  rintro e w3 ⟨rfl, hn⟩
  refine ⟨_, rfl, hK _ _ ((HB.out.fr hn (fun h => h)).sixteen) ?_⟩
  clear hK K hHeld
  have hHeld := (HB.out.fr hn (fun h => h)).sixteen
  have HB := Lib.hid (HB.out.fr hn (fun h => h))
  have HN := Lib.hid (HN.out.trans hn)
  clear hn
  change wpAnyH _ _ _ _ _ 2 _ (Act.put _ (some 43) _) _
  simp only [Act.put, List.setIfInBounds_toArray, List.set_cons_zero, List.set_cons_succ]
  refine wpAnyH_take (fuel := 1) (i := 20) (v := ?_) rfl (by kernel_rfl) (by kernel_rfl) (by kernel_rfl) (fun _ _ _ h => h) (Or.inl ⟨by rfl, ?_⟩) (by assumption) ?_
  rotate_left
  · (intro w hSw; (try dsimp only at hSw); go_simp; first | done | with_reducible rfl)
  change wpAnyH _ _ _ _ _ 1 _ (Act.put _ (some 44) _) _
  simp only [Act.put, List.setIfInBounds_toArray, List.set_cons_zero, List.set_cons_succ]
  refine wpAnyH_take (fuel := 0) (i := 21) (v := ?_) rfl (by kernel_rfl) (by kernel_rfl) (by kernel_rfl) (fun _ _ _ h => h) (Or.inl ⟨by rfl, ?_⟩) (by assumption) ?_
  rotate_left
  · (intro w hSw; (try dsimp only at hSw); go_simp; first | done | with_reducible rfl)
  change wpAnyH _ _ _ _ _ 0 _ (Act.put _ (some 2) _) _
  simp only [Act.put, List.setIfInBounds_toArray, List.set_cons_zero, List.set_cons_succ]
  refine wpAnyH_done (by kernel_rfl) ?_ _
  go_wp2_with fail
  go_ret
  exact ⟨rfl, HN.out⟩

end Go.Proofs.YtaiijndldngnkaaDoor
