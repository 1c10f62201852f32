/-
  The specification's Valid.
-/
import Derived.Test.YtaiijndldngnkaaDoorCMarks
namespace Go.Proofs.YtaiijndldngnkaaDoor
open Go.RowKit

abbrev ValidSaid (c : Ce) (b : Bool) (w : World) : Prop := Calls Tryd.prog 9 #[c.v] w fun e w' => e = .returned (.bool b) ∧ New w w'
theorem RVP (p : Pn) (b : Bool) (h : validB p = b) (w : World) : Calls Tryd.prog 28 #[p.v] w fun e w' => e = .returned (.bool b) ∧ New w w' := by
  subst h
  exact RValid_any p w
theorem RMC (c : Ce) (ok : Bool) (k : Nat) (h : okM c = ok) (hk : ok = true → nM c = k) (w : World) :
    Calls Tryd.prog 27 #[c.v] w fun e w' => (∃ n : Int, e = .returned (.tuple #[.int .i64 n, .bool ok]) ∧ (ok = true → n = (k : Int))) ∧ New w w' := by
  have := RMarksC_any c w
  unfold MarksSaid at this
  rw [h] at this
  exact this.mono fun _ _ ⟨⟨n, h1, h2⟩, h3⟩ => ⟨⟨n, h1, fun e => by rw [h2 e, hk e]⟩, h3⟩


set_option maxHeartbeats 1600000 in
theorem valid_pen (c : Ce) (hpv : validB c.p = false) (w : World) : ValidSaid c false w := by
  have C1 := fun w => RMC c (okM c) (nM c) rfl (fun _ => rfl) w
  have C2 := fun w => RVP c.p false hpv w
  clear hpv
  go_enter Tryd.func9, Tryd.ntmps9
  go_wp2_with fail
  have HN : Hid (New w (w.alloc (.cells c.cs 30))) := Lib.hid (New.alloc _)
  have HB := Lib.hid (Blk.new w 30 c.cs)
  generalize w.alloc (.cells c.cs 30) = W at *
  generalize w.heap.size = g at *
  refine (C1 _).mono ?_
  rintro e w1 ⟨⟨n, rfl, hnk⟩, hn⟩
  clear hnk
  have HN := Lib.hid (HN.out.trans hn)
  have HB := Lib.hid (HB.out.fr hn (fun h => h))
  clear hn
  obtain ⟨d0, d1, d2, d3, d4, d5, d6, d7, d8, d9, d10, d11, d12, d13, d14, d15⟩ := HB.out.sixteen
  go_wp2_with fail
  refine (C2 _).mono ?_
  rintro e w2 ⟨rfl, hn⟩
  clear d0 d1 d2 d3 d4 d5 d6 d7 d8 d9 d10 d11 d12 d13 d14 d15
  have HN := Lib.hid (HN.out.trans hn)
  have HB := Lib.hid (HB.out.fr hn (fun h => h))
  clear hn
  obtain ⟨d0, d1, d2, d3, d4, d5, d6, d7, d8, d9, d10, d11, d12, d13, d14, d15⟩ := HB.out.sixteen
  go_wp2_with fail
  go_ret
  exact ⟨rfl, HN.out⟩


set_option maxHeartbeats 1600000 in
theorem valid_marks (c : Ce) (hok : okM c = false) (hpv : validB c.p = true) (w : World) : ValidSaid c false w := by
  have C1 := fun w => RMC c false 0 hok (by simp) w
  have C2 := fun w => RVP c.p true hpv w
  clear hok hpv
  go_enter Tryd.func9, Tryd.ntmps9
  go_wp2_with fail
  have HN : Hid (New w (w.alloc (.cells c.cs 30))) := Lib.hid (New.alloc _)
  have HB := Lib.hid (Blk.new w 30 c.cs)
  generalize w.alloc (.cells c.cs 30) = W at *
  generalize w.heap.size = g at *
  refine (C1 _).mono ?_
  rintro e w1 ⟨⟨n, rfl, hnk⟩, hn⟩
  clear hnk
  have HN := Lib.hid (HN.out.trans hn)
  have HB := Lib.hid (HB.out.fr hn (fun h => h))
  clear hn
  obtain ⟨d0, d1, d2, d3, d4, d5, d6, d7, d8, d9, d10, d11, d12, d13, d14, d15⟩ := HB.out.sixteen
  go_wp2_with fail
  refine (C2 _).mono ?_
  rintro e w2 ⟨rfl, hn⟩
  clear d0 d1 d2 d3 d4 d5 d6 d7 d8 d9 d10 d11 d12 d13 d14 d15
  have HN := Lib.hid (HN.out.trans hn)
  have HB := Lib.hid (HB.out.fr hn (fun h => h))
  clear hn
  obtain ⟨d0, d1, d2, d3, d4, d5, d6, d7, d8, d9, d10, d11, d12, d13, d14, d15⟩ := HB.out.sixteen
  go_wp2_with fail
  go_ret
  exact ⟨rfl, HN.out⟩


set_option maxHeartbeats 1600000 in
theorem valid_0r (c : Ce) (k : Nat) (hok : okM c = true) (hpv : validB c.p = true) (hn : nM c = k) (h0 : c.wd = 0) (hr : c.r ≠ 0) (w : World) : ValidSaid c false w := by
  have C1 := fun w => RMC c true k hok (fun _ => hn) w
  have C2 := fun w => RVP c.p true hpv w
  have j0 : (c.wd == 0) = true := by simpa using h0
  have jr : (c.r == 0) = false := by simpa using hr
  clear hok hpv hn h0 hr
  go_enter Tryd.func9, Tryd.ntmps9
  go_wp2_with fail
  have HN : Hid (New w (w.alloc (.cells c.cs 30))) := Lib.hid (New.alloc _)
  have HB := Lib.hid (Blk.new w 30 c.cs)
  generalize w.alloc (.cells c.cs 30) = W at *
  generalize w.heap.size = g at *
  refine (C1 _).mono ?_
  rintro e w1 ⟨⟨n, rfl, hnk⟩, hn⟩
  obtain rfl := hnk trivial
  have HN := Lib.hid (HN.out.trans hn)
  have HB := Lib.hid (HB.out.fr hn (fun h => h))
  clear hn
  obtain ⟨d0, d1, d2, d3, d4, d5, d6, d7, d8, d9, d10, d11, d12, d13, d14, d15⟩ := HB.out.sixteen
  go_wp2_with fail
  refine (C2 _).mono ?_
  rintro e w2 ⟨rfl, hn⟩
  clear d0 d1 d2 d3 d4 d5 d6 d7 d8 d9 d10 d11 d12 d13 d14 d15
  have HN := Lib.hid (HN.out.trans hn)
  have HB := Lib.hid (HB.out.fr hn (fun h => h))
  clear hn
  obtain ⟨d0, d1, d2, d3, d4, d5, d6, d7, d8, d9, d10, d11, d12, d13, d14, d15⟩ := HB.out.sixteen
  go_wp2_with fail
  go_ret
  exact ⟨rfl, HN.out⟩


set_option maxHeartbeats 1600000 in
theorem valid_0n (c : Ce) (k : Nat) (hok : okM c = true) (hpv : validB c.p = true) (hn : nM c = k) (hk : k ≠ 0) (h0 : c.wd = 0) (hr : c.r = 0) (w : World) : ValidSaid c false w := by
  have C1 := fun w => RMC c true k hok (fun _ => hn) w
  have C2 := fun w => RVP c.p true hpv w
  have j0 : (c.wd == 0) = true := by simpa using h0
  have jr : (c.r == 0) = true := by simpa using hr
  have jn : ((k : Int) == 0) = false := by simpa using hk
  clear hok hpv hn h0 hr hk
  go_enter Tryd.func9, Tryd.ntmps9
  go_wp2_with fail
  have HN : Hid (New w (w.alloc (.cells c.cs 30))) := Lib.hid (New.alloc _)
  have HB := Lib.hid (Blk.new w 30 c.cs)
  generalize w.alloc (.cells c.cs 30) = W at *
  generalize w.heap.size = g at *
  refine (C1 _).mono ?_
  rintro e w1 ⟨⟨n, rfl, hnk⟩, hn⟩
  obtain rfl := hnk trivial
  have HN := Lib.hid (HN.out.trans hn)
  have HB := Lib.hid (HB.out.fr hn (fun h => h))
  clear hn
  obtain ⟨d0, d1, d2, d3, d4, d5, d6, d7, d8, d9, d10, d11, d12, d13, d14, d15⟩ := HB.out.sixteen
  go_wp2_with fail
  refine (C2 _).mono ?_
  rintro e w2 ⟨rfl, hn⟩
  clear d0 d1 d2 d3 d4 d5 d6 d7 d8 d9 d10 d11 d12 d13 d14 d15
  have HN := Lib.hid (HN.out.trans hn)
  have HB := Lib.hid (HB.out.fr hn (fun h => h))
  clear hn
  obtain ⟨d0, d1, d2, d3, d4, d5, d6, d7, d8, d9, d10, d11, d12, d13, d14, d15⟩ := HB.out.sixteen
  go_wp2_with fail
  go_ret
  exact ⟨rfl, HN.out⟩


set_option maxHeartbeats 1600000 in
theorem valid_0y (c : Ce) (hok : okM c = true) (hpv : validB c.p = true) (hn : nM c = 0) (h0 : c.wd = 0) (hr : c.r = 0) (w : World) : ValidSaid c true w := by
  have C1 := fun w => RMC c true 0 hok (fun _ => hn) w
  have C2 := fun w => RVP c.p true hpv w
  have j0 : (c.wd == 0) = true := by simpa using h0
  have jr : (c.r == 0) = true := by simpa using hr
  clear hok hpv hn h0 hr
  go_enter Tryd.func9, Tryd.ntmps9
  go_wp2_with fail
  have HN : Hid (New w (w.alloc (.cells c.cs 30))) := Lib.hid (New.alloc _)
  have HB := Lib.hid (Blk.new w 30 c.cs)
  generalize w.alloc (.cells c.cs 30) = W at *
  generalize w.heap.size = g at *
  refine (C1 _).mono ?_
  rintro e w1 ⟨⟨n, rfl, hnk⟩, hn⟩
  obtain rfl := hnk trivial
  have HN := Lib.hid (HN.out.trans hn)
  have HB := Lib.hid (HB.out.fr hn (fun h => h))
  clear hn
  obtain ⟨d0, d1, d2, d3, d4, d5, d6, d7, d8, d9, d10, d11, d12, d13, d14, d15⟩ := HB.out.sixteen
  go_wp2_with fail
  refine (C2 _).mono ?_
  rintro e w2 ⟨rfl, hn⟩
  clear d0 d1 d2 d3 d4 d5 d6 d7 d8 d9 d10 d11 d12 d13 d14 d15
  have HN := Lib.hid (HN.out.trans hn)
  have HB := Lib.hid (HB.out.fr hn (fun h => h))
  clear hn
  obtain ⟨d0, d1, d2, d3, d4, d5, d6, d7, d8, d9, d10, d11, d12, d13, d14, d15⟩ := HB.out.sixteen
  go_wp2_with fail
  go_ret
  exact ⟨rfl, HN.out⟩


set_option maxHeartbeats 1600000 in
theorem valid_1y (c : Ce) (hok : okM c = true) (hpv : validB c.p = true) (hn : nM c = 0) (h0 : c.wd ≠ 0) (h1 : c.wd = 1) (hr : c.r = 0) (w : World) : ValidSaid c true w := by
  have C1 := fun w => RMC c true 0 hok (fun _ => hn) w
  have C2 := fun w => RVP c.p true hpv w
  have j0 : (c.wd == 0) = false := by simpa using h0
  have j1 : (c.wd == 1) = true := by simpa using h1
  have jr : (c.r == 0) = true := by simpa using hr
  have jr' : (c.r != 0) = false := by simpa using hr
  clear hok hpv hn h0 h1 hr
  go_enter Tryd.func9, Tryd.ntmps9
  go_wp2_with fail
  have HN : Hid (New w (w.alloc (.cells c.cs 30))) := Lib.hid (New.alloc _)
  have HB := Lib.hid (Blk.new w 30 c.cs)
  generalize w.alloc (.cells c.cs 30) = W at *
  generalize w.heap.size = g at *
  refine (C1 _).mono ?_
  rintro e w1 ⟨⟨n, rfl, hnk⟩, hn⟩
  obtain rfl := hnk trivial
  have HN := Lib.hid (HN.out.trans hn)
  have HB := Lib.hid (HB.out.fr hn (fun h => h))
  clear hn
  obtain ⟨d0, d1, d2, d3, d4, d5, d6, d7, d8, d9, d10, d11, d12, d13, d14, d15⟩ := HB.out.sixteen
  go_wp2_with fail
  refine (C2 _).mono ?_
  rintro e w2 ⟨rfl, hn⟩
  clear d0 d1 d2 d3 d4 d5 d6 d7 d8 d9 d10 d11 d12 d13 d14 d15
  have HN := Lib.hid (HN.out.trans hn)
  have HB := Lib.hid (HB.out.fr hn (fun h => h))
  clear hn
  obtain ⟨d0, d1, d2, d3, d4, d5, d6, d7, d8, d9, d10, d11, d12, d13, d14, d15⟩ := HB.out.sixteen
  go_wp2_with fail
  go_ret
  exact ⟨rfl, HN.out⟩


set_option maxHeartbeats 1600000 in
theorem valid_1n (c : Ce) (k : Nat) (hok : okM c = true) (hpv : validB c.p = true) (hn : nM c = k) (hk : k ≠ 0) (h0 : c.wd ≠ 0) (h1 : c.wd = 1) (hr : c.r = 0) (w : World) : ValidSaid c false w := by
  have C1 := fun w => RMC c true k hok (fun _ => hn) w
  have C2 := fun w => RVP c.p true hpv w
  have j0 : (c.wd == 0) = false := by simpa using h0
  have j1 : (c.wd == 1) = true := by simpa using h1
  have jr : (c.r == 0) = true := by simpa using hr
  have jr' : (c.r != 0) = false := by simpa using hr
  have jn : ((k : Int) == 0) = false := by simpa using hk
  clear hok hpv hn h0 h1 hr hk
  go_enter Tryd.func9, Tryd.ntmps9
  go_wp2_with fail
  have HN : Hid (New w (w.alloc (.cells c.cs 30))) := Lib.hid (New.alloc _)
  have HB := Lib.hid (Blk.new w 30 c.cs)
  generalize w.alloc (.cells c.cs 30) = W at *
  generalize w.heap.size = g at *
  refine (C1 _).mono ?_
  rintro e w1 ⟨⟨n, rfl, hnk⟩, hn⟩
  obtain rfl := hnk trivial
  have HN := Lib.hid (HN.out.trans hn)
  have HB := Lib.hid (HB.out.fr hn (fun h => h))
  clear hn
  obtain ⟨d0, d1, d2, d3, d4, d5, d6, d7, d8, d9, d10, d11, d12, d13, d14, d15⟩ := HB.out.sixteen
  go_wp2_with fail
  refine (C2 _).mono ?_
  rintro e w2 ⟨rfl, hn⟩
  clear d0 d1 d2 d3 d4 d5 d6 d7 d8 d9 d10 d11 d12 d13 d14 d15
  have HN := Lib.hid (HN.out.trans hn)
  have HB := Lib.hid (HB.out.fr hn (fun h => h))
  clear hn
  obtain ⟨d0, d1, d2, d3, d4, d5, d6, d7, d8, d9, d10, d11, d12, d13, d14, d15⟩ := HB.out.sixteen
  go_wp2_with fail
  go_ret
  exact ⟨rfl, HN.out⟩


set_option maxHeartbeats 1600000 in
theorem valid_1r (c : Ce) (k : Nat) (hok : okM c = true) (hpv : validB c.p = true) (hn : nM c = k) (h0 : c.wd ≠ 0) (h1 : c.wd = 1) (hr : c.r ≠ 0) (w : World) : ValidSaid c (ofI c.r == 1) w := by
  have C1 := fun w => RMC c true k hok (fun _ => hn) w
  have C2 := fun w => RVP c.p true hpv w
  have j0 : (c.wd == 0) = false := by simpa using h0
  have j1 : (c.wd == 1) = true := by simpa using h1
  have jr : (c.r == 0) = false := by simpa using hr
  have jr' : (c.r != 0) = true := by simpa using hr
  clear hok hpv hn h0 h1 hr
  go_enter Tryd.func9, Tryd.ntmps9
  go_wp2_with fail
  have HN : Hid (New w (w.alloc (.cells c.cs 30))) := Lib.hid (New.alloc _)
  have HB := Lib.hid (Blk.new w 30 c.cs)
  generalize w.alloc (.cells c.cs 30) = W at *
  generalize w.heap.size = g at *
  refine (C1 _).mono ?_
  rintro e w1 ⟨⟨n, rfl, hnk⟩, hn⟩
  obtain rfl := hnk trivial
  have HN := Lib.hid (HN.out.trans hn)
  have HB := Lib.hid (HB.out.fr hn (fun h => h))
  clear hn
  obtain ⟨d0, d1, d2, d3, d4, d5, d6, d7, d8, d9, d10, d11, d12, d13, d14, d15⟩ := HB.out.sixteen
  go_wp2_with fail
  refine (C2 _).mono ?_
  rintro e w2 ⟨rfl, hn⟩
  clear d0 d1 d2 d3 d4 d5 d6 d7 d8 d9 d10 d11 d12 d13 d14 d15
  have HN := Lib.hid (HN.out.trans hn)
  have HB := Lib.hid (HB.out.fr hn (fun h => h))
  clear hn
  obtain ⟨d0, d1, d2, d3, d4, d5, d6, d7, d8, d9, d10, d11, d12, d13, d14, d15⟩ := HB.out.sixteen
  go_wp2_with fail
  refine (ROf_k c.r _ rfl _).mono ?_
  rintro e w3 ⟨rfl, hn⟩
  clear d0 d1 d2 d3 d4 d5 d6 d7 d8 d9 d10 d11 d12 d13 d14 d15
  have HN := Lib.hid (HN.out.trans hn)
  have HB := Lib.hid (HB.out.fr hn (fun h => h))
  clear hn
  obtain ⟨d0, d1, d2, d3, d4, d5, d6, d7, d8, d9, d10, d11, d12, d13, d14, d15⟩ := HB.out.sixteen
  go_wp2_with fail
  go_ret
  exact ⟨rfl, HN.out⟩


set_option maxHeartbeats 1600000 in
theorem valid_2 (c : Ce) (k : Nat) (hok : okM c = true) (hpv : validB c.p = true) (hn : nM c = k) (h0 : c.wd ≠ 0) (h1 : c.wd ≠ 1) (h2 : c.wd = 2) (w : World) : ValidSaid c (ofI c.r == 2) w := by
  have C1 := fun w => RMC c true k hok (fun _ => hn) w
  have C2 := fun w => RVP c.p true hpv w
  have j0 : (c.wd == 0) = false := by simpa using h0
  have j1 : (c.wd == 1) = false := by simpa using h1
  have j2 : (c.wd == 2) = true := by simpa using h2
  clear hok hpv hn h0 h1 h2
  go_enter Tryd.func9, Tryd.ntmps9
  go_wp2_with fail
  have HN : Hid (New w (w.alloc (.cells c.cs 30))) := Lib.hid (New.alloc _)
  have HB := Lib.hid (Blk.new w 30 c.cs)
  generalize w.alloc (.cells c.cs 30) = W at *
  generalize w.heap.size = g at *
  refine (C1 _).mono ?_
  rintro e w1 ⟨⟨n, rfl, hnk⟩, hn⟩
  obtain rfl := hnk trivial
  have HN := Lib.hid (HN.out.trans hn)
  have HB := Lib.hid (HB.out.fr hn (fun h => h))
  clear hn
  obtain ⟨d0, d1, d2, d3, d4, d5, d6, d7, d8, d9, d10, d11, d12, d13, d14, d15⟩ := HB.out.sixteen
  go_wp2_with fail
  refine (C2 _).mono ?_
  rintro e w2 ⟨rfl, hn⟩
  clear d0 d1 d2 d3 d4 d5 d6 d7 d8 d9 d10 d11 d12 d13 d14 d15
  have HN := Lib.hid (HN.out.trans hn)
  have HB := Lib.hid (HB.out.fr hn (fun h => h))
  clear hn
  obtain ⟨d0, d1, d2, d3, d4, d5, d6, d7, d8, d9, d10, d11, d12, d13, d14, d15⟩ := HB.out.sixteen
  go_wp2_with fail
  refine (ROf_k c.r _ rfl _).mono ?_
  rintro e w3 ⟨rfl, hn⟩
  clear d0 d1 d2 d3 d4 d5 d6 d7 d8 d9 d10 d11 d12 d13 d14 d15
  have HN := Lib.hid (HN.out.trans hn)
  have HB := Lib.hid (HB.out.fr hn (fun h => h))
  clear hn
  obtain ⟨d0, d1, d2, d3, d4, d5, d6, d7, d8, d9, d10, d11, d12, d13, d14, d15⟩ := HB.out.sixteen
  go_wp2_with fail
  go_ret
  exact ⟨rfl, HN.out⟩


set_option maxHeartbeats 1600000 in
theorem valid_3 (c : Ce) (k : Nat) (hok : okM c = true) (hpv : validB c.p = true) (hn : nM c = k) (h0 : c.wd ≠ 0) (h1 : c.wd ≠ 1) (h2 : c.wd ≠ 2) (w : World) : ValidSaid c false w := by
  have C1 := fun w => RMC c true k hok (fun _ => hn) w
  have C2 := fun w => RVP c.p true hpv w
  have j0 : (c.wd == 0) = false := by simpa using h0
  have j1 : (c.wd == 1) = false := by simpa using h1
  have j2 : (c.wd == 2) = false := by simpa using h2
  clear hok hpv hn h0 h1 h2
  go_enter Tryd.func9, Tryd.ntmps9
  go_wp2_with fail
  have HN : Hid (New w (w.alloc (.cells c.cs 30))) := Lib.hid (New.alloc _)
  have HB := Lib.hid (Blk.new w 30 c.cs)
  generalize w.alloc (.cells c.cs 30) = W at *
  generalize w.heap.size = g at *
  refine (C1 _).mono ?_
  rintro e w1 ⟨⟨n, rfl, hnk⟩, hn⟩
  obtain rfl := hnk trivial
  have HN := Lib.hid (HN.out.trans hn)
  have HB := Lib.hid (HB.out.fr hn (fun h => h))
  clear hn
  obtain ⟨d0, d1, d2, d3, d4, d5, d6, d7, d8, d9, d10, d11, d12, d13, d14, d15⟩ := HB.out.sixteen
  go_wp2_with fail
  refine (C2 _).mono ?_
  rintro e w2 ⟨rfl, hn⟩
  clear d0 d1 d2 d3 d4 d5 d6 d7 d8 d9 d10 d11 d12 d13 d14 d15
  have HN := Lib.hid (HN.out.trans hn)
  have HB := Lib.hid (HB.out.fr hn (fun h => h))
  clear hn
  obtain ⟨d0, d1, d2, d3, d4, d5, d6, d7, d8, d9, d10, d11, d12, d13, d14, d15⟩ := HB.out.sixteen
  go_wp2_with fail
  go_ret
  exact ⟨rfl, HN.out⟩


theorem said_of {c : Ce} {a b : Bool} {w : World} (h : ValidSaid c a w) (e : a = b) : ValidSaid c b w := e ▸ h
theorem RValidC_any (c : Ce) (w : World) : ValidSaid c (cellB c) w := by
  cases hpv : validB c.p with
  | false => exact said_of (valid_pen c hpv w) (by simp [cellB, hpv])
  | true =>
    cases hok : okM c with
    | false => exact said_of (valid_marks c hok hpv w) (by simp [cellB, hok])
    | true =>
      by_cases h0 : c.wd = 0
      · by_cases hr : c.r = 0
        · by_cases hk : nM c = 0
          · exact said_of (valid_0y c hok hpv hk h0 hr w) (by simp [cellB, hok, hpv, h0, hr, hk])
          · exact said_of (valid_0n c _ hok hpv rfl hk h0 hr w) (by simp [cellB, hok, hpv, h0, hr, hk])
        · exact said_of (valid_0r c _ hok hpv rfl h0 hr w) (by simp [cellB, hok, hpv, h0, hr])
      · by_cases h1 : c.wd = 1
        · by_cases hr : c.r = 0
          · by_cases hk : nM c = 0
            · exact said_of (valid_1y c hok hpv hk h0 h1 hr w) (by simp [cellB, hok, hpv, h1, hr, hk])
            · exact said_of (valid_1n c _ hok hpv rfl hk h0 h1 hr w) (by simp [cellB, hok, hpv, h1, hr, hk])
          · exact said_of (valid_1r c _ hok hpv rfl h0 h1 hr w) (by simp [cellB, hok, hpv, h1, hr]; rfl)
        · by_cases h2 : c.wd = 2
          · exact said_of (valid_2 c _ hok hpv rfl h0 h1 h2 w) (by simp [cellB, hok, hpv, h2]; rfl)
          · exact said_of (valid_3 c _ hok hpv rfl h0 h1 h2 w) (by simp [cellB, h0, h1, h2])

end Go.Proofs.YtaiijndldngnkaaDoor
