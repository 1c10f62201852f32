/-
  A pen with one flag more.
-/
import Derived.Test.YtgmgojoklacdlaaDoorAsk
namespace Go.Proofs.YtgmgojoklacdlaaDoor
open Go.RowKit

set_option maxHeartbeats 1600000 in
theorem With_yes (p : Pn) (hv : validB p = true) (f : Int) (h0 : 0 ≤ f) (h1 : f ≤ 255) (hf : flagB f = true) (w : World) :
    Calls Tryd.prog 26 #[p.v, .int .u8 f, .bool true] w fun e w' => e = .returned (.tuple #[.agg #[.int .i64 p.fore.k, .int .u8 p.fore.i, .int .u8 p.fore.r, .int .u8 p.fore.g, .int .u8 p.fore.b, .int .i64 p.back.k, .int .u8 p.back.i, .int .u8 p.back.r, .int .u8 p.back.g, .int .u8 p.back.b, .int .u8 (bits .or .u8 p.fl f)], .int .i64 0]) ∧ New w w' := by
  have C1 := fun w => Valid_any p w
  have C2 := fun w => isFlag_any f h0 h1 w
  rw [hv] at C1
  rw [hf] at C2
  clear hv hf
  go_enter Tryd.func26, Tryd.ntmps26
  go_wp2_with fail
  refine (C1 _).mono ?_
  rintro e w1 ⟨rfl, hn⟩
  have N0 : New w ((w.alloc (.cells p.cs 27)).alloc (.cells zeroP.cs 27)) := (New.alloc _).trans (New.alloc _)
  have HN := Lib.hid (N0.trans hn)
  have HP := Lib.hid (((Blk.new w 27 p.cs).alloc (.cells zeroP.cs 27)).fr hn (fun h => h))
  have HZ : Hid (Blk w1 (w.heap.size + 1) 27 zeroP.cs) := Lib.hid (by
    have := (Blk.new (w.alloc (.cells p.cs 27)) 27 zeroP.cs).fr hn (fun h => h)
    simpa using this)
  clear hn N0
  generalize hg : w.heap.size = g at *
  go_wp2_with fail
  refine (C2 _).mono ?_
  rintro e w2 ⟨rfl, rfl⟩
  obtain ⟨d0, d1, d2, d3, d4, d5, d6, d7, d8, d9, d10⟩ := HP.out.eleven
  obtain ⟨q0, q1, q2, q3, q4, q5, q6, q7, q8, q9, q10⟩ := HZ.out.eleven
  have fz := HP.out.free
  have fz2 := HZ.out.free
  clear C1 C2
  go_wp2
  have B := ((HZ.out.far (p := ⟨g, 10, none⟩) (by simp) (.int .u8 (bits .or .u8 p.fl f))).set11 (.int .i64 p.fore.k) (.int .u8 p.fore.i) (.int .u8 p.fore.r) (.int .u8 p.fore.g) (.int .u8 p.fore.b) (.int .i64 p.back.k) (.int .u8 p.back.i) (.int .u8 p.back.r) (.int .u8 p.back.g) (.int .u8 p.back.b) (.int .u8 (bits .or .u8 p.fl f)))
  obtain ⟨e0, e1, e2, e3, e4, e5, e6, e7, e8, e9, e10⟩ := B.eleven
  refine bodyPost_ret (v := .tuple #[.agg #[.int .i64 p.fore.k, .int .u8 p.fore.i, .int .u8 p.fore.r, .int .u8 p.fore.g, .int .u8 p.fore.b, .int .i64 p.back.k, .int .u8 p.back.i, .int .u8 p.back.r, .int .u8 p.back.g, .int .u8 p.back.b, .int .u8 (bits .or .u8 p.fl f)], .int .i64 0]) (by simp [results, Tryd.results26, go_sem, e0, e1, e2, e3, e4, e5, e6, e7, e8, e9, e10]) rfl ?_
  exact ⟨rfl, (HN.out.setCell (.inr (Nat.le_of_eq hg)) _).set11 (.inr (by omega)) _ _ _ _ _ _ _ _ _ _ _⟩

set_option maxHeartbeats 1600000 in
theorem With_no (p : Pn) (hv : validB p = true) (f : Int) (h0 : 0 ≤ f) (h1 : f ≤ 255) (hf : flagB f = false) (w : World) :
    Calls Tryd.prog 26 #[p.v, .int .u8 f, .bool true] w fun e w' => e = .returned (.tuple #[zeroP.v, .int .i64 2]) ∧ New w w' := by
  have C1 := fun w => Valid_any p w
  have C2 := fun w => isFlag_any f h0 h1 w
  rw [hv] at C1
  rw [hf] at C2
  clear hv hf
  go_enter Tryd.func26, Tryd.ntmps26
  go_wp2_with fail
  refine (C1 _).mono ?_
  rintro e w1 ⟨rfl, hn⟩
  have N0 : New w ((w.alloc (.cells p.cs 27)).alloc (.cells zeroP.cs 27)) := (New.alloc _).trans (New.alloc _)
  have HN := Lib.hid (N0.trans hn)
  have HZ : Hid (Blk w1 (w.heap.size + 1) 27 zeroP.cs) := Lib.hid (by
    have := (Blk.new (w.alloc (.cells p.cs 27)) 27 zeroP.cs).fr hn (fun h => h)
    simpa using this)
  clear hn N0
  generalize hg : w.heap.size = g at *
  go_wp2_with fail
  refine (C2 _).mono ?_
  rintro e w2 ⟨rfl, rfl⟩
  obtain ⟨q0, q1, q2, q3, q4, q5, q6, q7, q8, q9, q10⟩ := HZ.out.eleven
  have fz2 := HZ.out.free
  clear C1 C2
  go_wp2
  have B := HZ.out.set11 (.int .i64 0) (.int .u8 0) (.int .u8 0) (.int .u8 0) (.int .u8 0) (.int .i64 0) (.int .u8 0) (.int .u8 0) (.int .u8 0) (.int .u8 0) (.int .u8 0)
  obtain ⟨e0, e1, e2, e3, e4, e5, e6, e7, e8, e9, e10⟩ := B.eleven
  refine bodyPost_ret (v := .tuple #[zeroP.v, .int .i64 2]) (by simp [results, Tryd.results26, go_sem, e0, e1, e2, e3, e4, e5, e6, e7, e8, e9, e10]) rfl ?_
  exact ⟨rfl, HN.out.set11 (.inr (by omega)) _ _ _ _ _ _ _ _ _ _ _⟩

set_option maxHeartbeats 800000 in
theorem with_no (p : Pn) (hv : validB p = true) (f : Int) (h0 : 0 ≤ f) (h1 : f ≤ 255) (hf : flagB f = false) (w : World) :
    Calls Tryd.prog 28 #[p.v, .int .u8 f, .bool true, zeroP.v, .int .i64 2] w fun e w' => e = .returned (.bool true) ∧ New w w' := by
  have C := fun w => With_no p hv f h0 h1 hf w
  have heq := eq_self zeroP
  have gd := guard27
  clear hv hf
  go_enter Tryd.func28, Tryd.ntmps28
  go_wp2_with fail
  refine (C _).mono ?_
  rintro e w1 ⟨rfl, hn⟩
  have N0 : New w ((w.alloc (.cells p.cs 27)).alloc (.cells zeroP.cs 27)) := (New.alloc _).trans (New.alloc _)
  have HN := Lib.hid (N0.trans hn)
  have HZ : Hid (Blk w1 (w.heap.size + 1) 27 zeroP.cs) := Lib.hid (by
    have := (Blk.new (w.alloc (.cells p.cs 27)) 27 zeroP.cs).fr hn (fun h => h)
    simpa using this)
  obtain ⟨d0, d1, d2, d3, d4, d5, d6, d7, d8, d9, d10⟩ := (HZ.out.alloc (.cells zeroP.cs 27)).eleven
  clear hn C N0
  go_wp2
  go_ret
  exact ⟨rfl, HN.out.trans (New.alloc _)⟩

end Go.Proofs.YtgmgojoklacdlaaDoor
