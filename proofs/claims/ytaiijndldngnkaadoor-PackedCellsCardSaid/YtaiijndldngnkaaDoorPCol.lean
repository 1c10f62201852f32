/-
  The colors with some bits.
-/
import Derived.Test.YtaiijndldngnkaaDoorPBits
namespace Go.Proofs.YtaiijndldngnkaaDoor
open Go.RowKit

theorem col_one {x : Int} (h : x / 16777216 = 1) : colW x = ⟨1, x % 256, 0, 0, 0⟩ := by unfold colW; rw [if_pos h]
theorem col_two {x : Int} (h : x / 16777216 = 2) : colW x = ⟨2, 0, x / 65536 % 256, x / 256 % 256, x % 256⟩ := by unfold colW; rw [if_neg (by omega), if_pos h]
theorem col_no {x : Int} (h : ¬ x / 16777216 = 1) (h2 : ¬ x / 16777216 = 2) : colW x = zeroC := by unfold colW; rw [if_neg h, if_neg h2]
theorem ret_col {a b : Co} (h : a = b) : Ending.returned a.v = .returned b.v := by rw [h]

set_option maxHeartbeats 800000 in
theorem colorWith_any (x : Int) (h0 : 0 ≤ x) (h1 : x < 67108864) (w : World) :
    Calls Tryd.prog 57 #[.int .u64 x] w fun e w' => e = .returned (colW x).v ∧ New w w' := by
  have hw : IntKind.i64.wrap (x / 16777216) = x / 16777216 := IntWalk.i64_in _ ⟨by omega, by omega⟩
  have u0 : IntKind.u8.wrap x = x % 256 := IntKind.wrap_u8 x
  have u1 : IntKind.u8.wrap (x / 65536) = x / 65536 % 256 := IntKind.wrap_u8 _
  have u2 : IntKind.u8.wrap (x / 256) = x / 256 % 256 := IntKind.wrap_u8 _
  by_cases k1 : x / 16777216 = 1
  · have j1 : (x / 16777216 == 1) = true := by simpa using k1
    have HK := Lib.hid k1
    clear k1
    go_enter Tryd.func57, Tryd.ntmps57
    go_wp2_with (go_at_call 63; refine (Index_any (x % 256) _).mono ?_; rintro e w2 ⟨rfl, hn⟩; have HN := Lib.hid ((New.alloc _).trans hn); have B := (Blk.new w 25 #[.int .i64 0, .int .u8 0, .int .u8 0, .int .u8 0, .int .u8 0]).fr hn (fun h => h); have HB := Lib.hid B; obtain ⟨d0, d1, d2, d3, d4⟩ := B.five; have fz := B.free; clear hn B)
    have B := HB.out.set5 (.int .i64 1) (.int .u8 (x % 256)) (.int .u8 0) (.int .u8 0) (.int .u8 0)
    obtain ⟨e0, e1, e2, e3, e4⟩ := B.five
    refine bodyPost_ret (v := .agg #[.int .i64 1, .int .u8 (x % 256), .int .u8 0, .int .u8 0, .int .u8 0]) (by simp [results, Tryd.results57, go_sem, e0, e1, e2, e3, e4]) rfl ?_
    exact ⟨ret_col (col_one HK.out).symm, HN.out.set5 (.inr (Nat.le_refl _)) _ _ _ _ _⟩
  · have j1 : (x / 16777216 == 1) = false := by simpa using k1
    have HK := Lib.hid k1
    clear k1
    by_cases k2 : x / 16777216 = 2
    · have j2 : (x / 16777216 == 2) = true := by simpa using k2
      have HK2 := Lib.hid k2
      clear k2
      go_enter Tryd.func57, Tryd.ntmps57
      go_wp2_with (go_at_call 64; refine (True_any (x / 65536 % 256) (x / 256 % 256) (x % 256) _).mono ?_; rintro e w2 ⟨rfl, hn⟩; have HN := Lib.hid ((New.alloc _).trans hn); have B := (Blk.new w 25 #[.int .i64 0, .int .u8 0, .int .u8 0, .int .u8 0, .int .u8 0]).fr hn (fun h => h); have HB := Lib.hid B; obtain ⟨d0, d1, d2, d3, d4⟩ := B.five; have fz := B.free; clear hn B)
      have B := HB.out.set5 (.int .i64 2) (.int .u8 0) (.int .u8 (x / 65536 % 256)) (.int .u8 (x / 256 % 256)) (.int .u8 (x % 256))
      obtain ⟨e0, e1, e2, e3, e4⟩ := B.five
      refine bodyPost_ret (v := .agg #[.int .i64 2, .int .u8 0, .int .u8 (x / 65536 % 256), .int .u8 (x / 256 % 256), .int .u8 (x % 256)]) (by simp [results, Tryd.results57, go_sem, e0, e1, e2, e3, e4]) rfl ?_
      exact ⟨ret_col (col_two HK2.out).symm, HN.out.set5 (.inr (Nat.le_refl _)) _ _ _ _ _⟩
    · have j2 : (x / 16777216 == 2) = false := by simpa using k2
      have HK2 := Lib.hid k2
      clear k2
      go_enter Tryd.func57, Tryd.ntmps57
      go_wp2
      refine bodyPost_ret (v := .agg #[.int .i64 0, .int .u8 0, .int .u8 0, .int .u8 0, .int .u8 0]) (by simp [results, Tryd.results57, go_sem]) rfl ?_
      exact ⟨ret_col (col_no HK.out HK2.out).symm, New.alloc _⟩

set_option maxHeartbeats 800000 in
theorem RColorOf_any (x : Int) (h0 : 0 ≤ x) (h1 : x < 67108864) (w : World) :
    Calls Tryd.prog 49 #[.int .u64 x] w fun e w' => e = .returned (colW x).v ∧ New w w' := by
  have u0 : IntKind.u8.wrap (x % 256) = x % 256 := by rw [IntKind.wrap_u8]; omega
  have u1 : IntKind.u8.wrap (x / 65536 % 256) = x / 65536 % 256 := by rw [IntKind.wrap_u8]; omega
  have u2 : IntKind.u8.wrap (x / 256 % 256) = x / 256 % 256 := by rw [IntKind.wrap_u8]; omega
  by_cases k1 : x / 16777216 = 1
  · have j1 : (x / 16777216 == 1) = true := by simpa using k1
    have HK := Lib.hid k1
    clear k1
    go_enter Tryd.func49, Tryd.ntmps49
    go_wp2
    refine bodyPost_ret (v := .agg #[.int .i64 1, .int .u8 (x % 256), .int .u8 0, .int .u8 0, .int .u8 0]) (by simp [results, Tryd.results49, go_sem]) rfl ?_
    exact ⟨ret_col (col_one HK.out).symm, New.alloc _⟩
  · have j1 : (x / 16777216 == 1) = false := by simpa using k1
    have HK := Lib.hid k1
    clear k1
    by_cases k2 : x / 16777216 = 2
    · have j2 : (x / 16777216 == 2) = true := by simpa using k2
      have HK2 := Lib.hid k2
      clear k2
      go_enter Tryd.func49, Tryd.ntmps49
      go_wp2
      refine bodyPost_ret (v := .agg #[.int .i64 2, .int .u8 0, .int .u8 (x / 65536 % 256), .int .u8 (x / 256 % 256), .int .u8 (x % 256)]) (by simp [results, Tryd.results49, go_sem]) rfl ?_
      exact ⟨ret_col (col_two HK2.out).symm, New.alloc _⟩
    · have j2 : (x / 16777216 == 2) = false := by simpa using k2
      have HK2 := Lib.hid k2
      clear k2
      go_enter Tryd.func49, Tryd.ntmps49
      go_wp2
      refine bodyPost_ret (v := .agg #[.int .i64 0, .int .u8 0, .int .u8 0, .int .u8 0, .int .u8 0]) (by simp [results, Tryd.results49, go_sem]) rfl ?_
      exact ⟨ret_col (col_no HK.out HK2.out).symm, New.alloc _⟩

end Go.Proofs.YtaiijndldngnkaaDoor
