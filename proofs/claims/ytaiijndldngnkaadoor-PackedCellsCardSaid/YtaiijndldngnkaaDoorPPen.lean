/-
  Pens: which ones there are, their words, and the pens with words.
-/
import Derived.Test.YtaiijndldngnkaaDoorPCol
import Derived.Test.YtaiijndldngnkaaDoorPValid
namespace Go.Proofs.YtaiijndldngnkaaDoor
open Go.RowKit




theorem Pn.Ok.word_bounds {p : Pn} (hp : p.Ok) : 0 ≤ bitsI p.fore ∧ bitsI p.fore < 67108864 ∧ 0 ≤ bitsI p.back ∧ bitsI p.back < 67108864 ∧ 0 ≤ p.fl ∧ p.fl ≤ 255 :=
  ⟨(bits_lt hp.fore).1, (bits_lt hp.fore).2, (bits_lt hp.back).1, (bits_lt hp.back).2, hp.f0, hp.f1⟩
theorem word_or {p : Pn} (hp : p.Ok) : bits .or .u64 (bits .or .u64 (bitsI p.fore) (bitsI p.back * 67108864)) (p.fl * 4503599627370496) = wordI p := by
  obtain ⟨a0, a1, b0, b1, c0, c1⟩ := hp.word_bounds
  have e1 : bits .or .u64 (bitsI p.fore) (bitsI p.back * 67108864) = bitsI p.fore + bitsI p.back * 67108864 := or64' 26 _ _ (by omega) (by omega) (by omega) (by omega) (by omega) (by omega)
  rw [e1, or64' 52 _ _ (by omega) (by omega) (by omega) (by omega) (by omega) (by omega)]
  unfold wordI
  omega

set_option maxHeartbeats 1600000 in
theorem wordOf_any (p : Pn) (hp : p.Ok) (hv : validB p = true) (w : World) :
    Calls Tryd.prog 58 #[p.v] w fun e w' => e = .returned (.int .u64 (wordI p)) ∧ New w w' := by
  obtain ⟨hv1, hv2⟩ := Bool.and_eq_true _ _ ▸ hv
  have hp1 := hp.fore
  have hp2 := hp.back
  have w1 : IntKind.u64.wrap (bitsI p.back * 67108864) = bitsI p.back * 67108864 := u64_wraps _ (by have := hp.word_bounds; omega) (by have := hp.word_bounds; omega)
  have w2 : IntKind.u64.wrap (p.fl * 4503599627370496) = p.fl * 4503599627370496 := u64_wraps _ (by have := hp.word_bounds; omega) (by have := hp.word_bounds; omega)
  have w3 : IntKind.u64.wrap p.fl = p.fl := u64_wraps _ (by have := hp.word_bounds; omega) (by have := hp.word_bounds; omega)
  go_enter Tryd.func58, Tryd.ntmps58
  go_wp2
  have B0 := Blk.new w 28 p.cs
  have N0 : New w (w.alloc (.cells p.cs 28)) := New.alloc _
  generalize w.alloc (.cells p.cs 28) = W at *
  generalize w.heap.size = g at *
  have d := B0.eleven
  have HB := Lib.hid B0
  have HN := Lib.hid N0
  clear B0 N0
  go_region_held3 (fun w' => w'.cell? ⟨g, 0, none⟩ = some (.int .i64 p.fore.k) ∧ w'.cell? ⟨g, 1, none⟩ = some (.int .u8 p.fore.i) ∧ w'.cell? ⟨g, 2, none⟩ = some (.int .u8 p.fore.r) ∧ w'.cell? ⟨g, 3, none⟩ = some (.int .u8 p.fore.g) ∧ w'.cell? ⟨g, 4, none⟩ = some (.int .u8 p.fore.b) ∧ w'.cell? ⟨g, 5, none⟩ = some (.int .i64 p.back.k) ∧ w'.cell? ⟨g, 6, none⟩ = some (.int .u8 p.back.i) ∧ w'.cell? ⟨g, 7, none⟩ = some (.int .u8 p.back.r) ∧ w'.cell? ⟨g, 8, none⟩ = some (.int .u8 p.back.g) ∧ w'.cell? ⟨g, 9, none⟩ = some (.int .u8 p.back.b) ∧ w'.cell? ⟨g, 10, none⟩ = some (.int .u8 p.fl)) (first | go_keep | exact HB.out.eleven) (first | (go_at_call 65; refine (bitsOf_any _ (by assumption) (by assumption) _).mono ?_; rintro e w2 ⟨rfl, hn⟩; have HB := Lib.hid (HB.out.fr hn.of_drew (fun h => h)); have HN := Lib.hid (HN.out.trans hn.of_drew); clear hn) | (go_at_call 65; refine (bitsOf_any _ (by assumption) (by assumption) _).mono ?_; rintro e w2 ⟨rfl, hn⟩; have HB := Lib.hid (HB.out.fr hn (fun h => h)); have HN := Lib.hid (HN.out.trans hn); clear hn))
  all_goals
    first | go_wp2 | skip
    go_ret
    exact ⟨ret_int (word_or hp), HN.out⟩

set_option maxHeartbeats 1600000 in
theorem RPack_any (p : Pn) (hp : p.Ok) (w : World) :
    Calls Tryd.prog 32 #[p.v] w fun e w' => e = .returned (.int .u64 (wordI p)) ∧ New w w' := by
  have hp1 := hp.fore
  have hp2 := hp.back
  have w1 : IntKind.u64.wrap (67108864 * bitsI p.back) = 67108864 * bitsI p.back := u64_wraps _ (by have := hp.word_bounds; omega) (by have := hp.word_bounds; omega)
  have w2 : IntKind.u64.wrap (4503599627370496 * p.fl) = 4503599627370496 * p.fl := u64_wraps _ (by have := hp.word_bounds; omega) (by have := hp.word_bounds; omega)
  have w3 : IntKind.u64.wrap p.fl = p.fl := u64_wraps _ (by have := hp.word_bounds; omega) (by have := hp.word_bounds; omega)
  have w4 : IntKind.u64.wrap (bitsI p.fore + 67108864 * bitsI p.back) = bitsI p.fore + 67108864 * bitsI p.back := u64_wraps _ (by have := hp.word_bounds; omega) (by have := hp.word_bounds; omega)
  have w5 : IntKind.u64.wrap (bitsI p.fore + 67108864 * bitsI p.back + 4503599627370496 * p.fl) = bitsI p.fore + 67108864 * bitsI p.back + 4503599627370496 * p.fl := u64_wraps _ (by have := hp.word_bounds; omega) (by have := hp.word_bounds; omega)
  go_enter Tryd.func32, Tryd.ntmps32
  go_wp2
  have B0 := Blk.new w 28 p.cs
  have N0 : New w (w.alloc (.cells p.cs 28)) := New.alloc _
  generalize w.alloc (.cells p.cs 28) = W at *
  generalize w.heap.size = g at *
  have d := B0.eleven
  have HB := Lib.hid B0
  have HN := Lib.hid N0
  clear B0 N0
  go_region_held3 (fun w' => w'.cell? ⟨g, 0, none⟩ = some (.int .i64 p.fore.k) ∧ w'.cell? ⟨g, 1, none⟩ = some (.int .u8 p.fore.i) ∧ w'.cell? ⟨g, 2, none⟩ = some (.int .u8 p.fore.r) ∧ w'.cell? ⟨g, 3, none⟩ = some (.int .u8 p.fore.g) ∧ w'.cell? ⟨g, 4, none⟩ = some (.int .u8 p.fore.b) ∧ w'.cell? ⟨g, 5, none⟩ = some (.int .i64 p.back.k) ∧ w'.cell? ⟨g, 6, none⟩ = some (.int .u8 p.back.i) ∧ w'.cell? ⟨g, 7, none⟩ = some (.int .u8 p.back.r) ∧ w'.cell? ⟨g, 8, none⟩ = some (.int .u8 p.back.g) ∧ w'.cell? ⟨g, 9, none⟩ = some (.int .u8 p.back.b) ∧ w'.cell? ⟨g, 10, none⟩ = some (.int .u8 p.fl)) (first | go_keep | exact HB.out.eleven) (first | (go_at_call 46; refine (RBits_any _ (by assumption) _).mono ?_; rintro e w2 ⟨rfl, hn⟩; have HB := Lib.hid (HB.out.fr hn.of_drew (fun h => h)); have HN := Lib.hid (HN.out.trans hn.of_drew); clear hn) | (go_at_call 46; refine (RBits_any _ (by assumption) _).mono ?_; rintro e w2 ⟨rfl, hn⟩; have HB := Lib.hid (HB.out.fr hn (fun h => h)); have HN := Lib.hid (HN.out.trans hn); clear hn))
  all_goals
    first | go_wp2 | skip
    go_ret
    exact ⟨rfl, HN.out⟩

set_option maxHeartbeats 800000 in
theorem Pack_yes (p : Pn) (hp : p.Ok) (hv : validB p = true) (w : World) :
    Calls Tryd.prog 55 #[p.v] w fun e w' => e = .returned (.tuple #[.int .u64 (wordI p), .int .i64 0]) ∧ New w w' := by
  have h1 := fun w => Valid_any p w
  have HV := Lib.hid hv
  rw [hv] at h1
  clear hv
  go_enter Tryd.func55, Tryd.ntmps55
  go_wp2_with fail
  refine (h1 _).mono ?_
  rintro e w1 ⟨rfl, hn⟩
  have HN := Lib.hid ((New.alloc _).trans hn)
  obtain ⟨d0, d1, d2, d3, d4, d5, d6, d7, d8, d9, d10⟩ := ((Blk.new w 28 p.cs).fr hn (fun h => h)).eleven
  clear hn
  go_wp2_with fail
  refine (wordOf_any p hp HV.out _).mono ?_
  rintro e w2 ⟨rfl, hn⟩
  have HN2 := Lib.hid (HN.out.trans hn)
  clear hn
  go_wp2_with fail
  go_ret2
  exact ⟨rfl, HN2.out⟩

set_option maxHeartbeats 800000 in
theorem Pack_no (p : Pn) (hv : validB p = false) (w : World) :
    Calls Tryd.prog 55 #[p.v] w fun e w' => e = .returned (.tuple #[.int .u64 0, .int .i64 2]) ∧ New w w' := by
  have h1 := fun w => Valid_any p w
  rw [hv] at h1
  clear hv
  go_enter Tryd.func55, Tryd.ntmps55
  go_wp2_with fail
  refine (h1 _).mono ?_
  rintro e w1 ⟨rfl, hn⟩
  have HN := Lib.hid ((New.alloc _).trans hn)
  clear hn
  go_wp2_with fail
  go_ret2
  exact ⟨rfl, HN.out⟩

theorem ret_pen2 {p q : Pn} {k : IntKind} {a b : Int} (h : p = q) (h2 : a = b) : Ending.returned (.tuple #[p.v, .int k a]) = .returned (.tuple #[q.v, .int k b]) := by rw [h, h2]

theorem zeros (w : World) : Blk (w.alloc (.cells zeroP.cs 28)) w.heap.size 28 zeroP.cs := Blk.new w _ _

set_option maxHeartbeats 1600000 in
theorem Unpack_yes (x : Int) (h0 : 0 ≤ x) (h1 : x < 18446744073709551616) (hx : wordI (penW x) = x) (w : World) :
    Calls Tryd.prog 47 #[.int .u64 x] w fun e w' => e = .returned (.tuple #[(penW x).v, .int .i64 0]) ∧ New w w' := by
  have a1 : bits .and .u64 x 67108863 = x % 67108864 := and64 26 (by decide) x h0 h1
  have a2 : bits .and .u64 (x / 67108864) 67108863 = x / 67108864 % 67108864 := and64 26 (by decide) _ (by omega) (by omega)
  have a3 : IntKind.u8.wrap (x / 4503599627370496) = x / 4503599627370496 % 256 := IntKind.wrap_u8 _
  have HX := Lib.hid hx
  clear hx
  go_enter Tryd.func47, Tryd.ntmps47
  go_wp2_with fail
  refine (colorWith_any (x % 67108864) (by omega) (by omega) _).mono ?_
  rintro e w1 ⟨rfl, hn⟩
  have HN := Lib.hid ((New.alloc _).trans hn)
  have HB := Lib.hid ((zeros w).fr hn (fun h => h))
  clear hn
  go_wp2_with fail
  refine (colorWith_any (x / 67108864 % 67108864) (by omega) (by omega) _).mono ?_
  rintro e w2 ⟨rfl, hn⟩
  have HN2 := Lib.hid (HN.out.trans hn)
  have HB2 := Lib.hid (HB.out.fr hn (fun h => h))
  clear hn
  go_wp2_with fail
  refine (wordOf_any (penW x) (penW_ok x) (validB_penW x) _).mono ?_
  have HP := Lib.hid (Blk.new w2 28 (penW x).cs)
  have HB3 := Lib.hid (HB2.out.alloc (.cells (penW x).cs 28))
  have HN3 := Lib.hid (HN2.out.trans (New.alloc (.cells (penW x).cs 28)))
  rintro e w3 ⟨rfl, hn⟩
  have HN4 := Lib.hid (HN3.out.trans hn)
  have HP4 := Lib.hid (HP.out.fr hn (fun h => h))
  have HB4 := Lib.hid (HB3.out.fr hn (fun h => h))
  clear hn
  obtain ⟨d0, d1, d2, d3, d4, d5, d6, d7, d8, d9, d10⟩ := HP4.out.eleven
  obtain ⟨c0, c1, c2, c3, c4, c5, c6, c7, c8, c9, c10⟩ := HB4.out.eleven
  have fz := HB4.out.free
  generalize hg : w.heap.size = g at *
  generalize w2.heap.size = g2 at *
  generalize hp : penW x = p at *
  have jx := HX.out
  clear HX
  go_wp2
  have B := HB4.out.set11 (.int .i64 p.fore.k) (.int .u8 p.fore.i) (.int .u8 p.fore.r) (.int .u8 p.fore.g) (.int .u8 p.fore.b) (.int .i64 p.back.k) (.int .u8 p.back.i) (.int .u8 p.back.r) (.int .u8 p.back.g) (.int .u8 p.back.b) (.int .u8 p.fl)
  obtain ⟨e0, e1, e2, e3, e4, e5, e6, e7, e8, e9, e10⟩ := B.eleven
  refine bodyPost_ret (v := .tuple #[p.v, .int .i64 0]) (by simp [results, Tryd.results47, go_sem, e0, e1, e2, e3, e4, e5, e6, e7, e8, e9, e10]) rfl ?_
  exact ⟨by rw [hp], HN4.out.set11 (.inr (Nat.le_of_eq hg)) _ _ _ _ _ _ _ _ _ _ _⟩

set_option maxHeartbeats 1600000 in
theorem Unpack_no (x : Int) (h0 : 0 ≤ x) (h1 : x < 18446744073709551616) (hx : wordI (penW x) ≠ x) (w : World) :
    Calls Tryd.prog 47 #[.int .u64 x] w fun e w' => e = .returned (.tuple #[zeroP.v, .int .i64 12]) ∧ New w w' := by
  have a1 : bits .and .u64 x 67108863 = x % 67108864 := and64 26 (by decide) x h0 h1
  have a2 : bits .and .u64 (x / 67108864) 67108863 = x / 67108864 % 67108864 := and64 26 (by decide) _ (by omega) (by omega)
  have a3 : IntKind.u8.wrap (x / 4503599627370496) = x / 4503599627370496 % 256 := IntKind.wrap_u8 _
  have HX := Lib.hid hx
  clear hx
  go_enter Tryd.func47, Tryd.ntmps47
  go_wp2_with fail
  refine (colorWith_any (x % 67108864) (by omega) (by omega) _).mono ?_
  rintro e w1 ⟨rfl, hn⟩
  have HN := Lib.hid ((New.alloc _).trans hn)
  have HB := Lib.hid ((zeros w).fr hn (fun h => h))
  clear hn
  go_wp2_with fail
  refine (colorWith_any (x / 67108864 % 67108864) (by omega) (by omega) _).mono ?_
  rintro e w2 ⟨rfl, hn⟩
  have HN2 := Lib.hid (HN.out.trans hn)
  have HB2 := Lib.hid (HB.out.fr hn (fun h => h))
  clear hn
  go_wp2_with fail
  refine (wordOf_any (penW x) (penW_ok x) (validB_penW x) _).mono ?_
  have HP := Lib.hid (Blk.new w2 28 (penW x).cs)
  have HB3 := Lib.hid (HB2.out.alloc (.cells (penW x).cs 28))
  have HN3 := Lib.hid (HN2.out.trans (New.alloc (.cells (penW x).cs 28)))
  rintro e w3 ⟨rfl, hn⟩
  have HN4 := Lib.hid (HN3.out.trans hn)
  have HP4 := Lib.hid (HP.out.fr hn (fun h => h))
  have HB4 := Lib.hid (HB3.out.fr hn (fun h => h))
  clear hn
  obtain ⟨d0, d1, d2, d3, d4, d5, d6, d7, d8, d9, d10⟩ := HP4.out.eleven
  obtain ⟨c0, c1, c2, c3, c4, c5, c6, c7, c8, c9, c10⟩ := HB4.out.eleven
  have fz := HB4.out.free
  generalize hg : w.heap.size = g at *
  generalize w2.heap.size = g2 at *
  generalize hp : penW x = p at *
  have jx := (show (wordI p == x) = false by simpa using HX.out)
  clear HX
  go_wp2
  have B := HB4.out.set11 (.int .i64 0) (.int .u8 0) (.int .u8 0) (.int .u8 0) (.int .u8 0) (.int .i64 0) (.int .u8 0) (.int .u8 0) (.int .u8 0) (.int .u8 0) (.int .u8 0)
  obtain ⟨e0, e1, e2, e3, e4, e5, e6, e7, e8, e9, e10⟩ := B.eleven
  refine bodyPost_ret (v := .tuple #[zeroP.v, .int .i64 12]) (by simp [results, Tryd.results47, go_sem, e0, e1, e2, e3, e4, e5, e6, e7, e8, e9, e10]) rfl ?_
  exact ⟨rfl, HN4.out.set11 (.inr (Nat.le_of_eq hg)) _ _ _ _ _ _ _ _ _ _ _⟩

end Go.Proofs.YtaiijndldngnkaaDoor
