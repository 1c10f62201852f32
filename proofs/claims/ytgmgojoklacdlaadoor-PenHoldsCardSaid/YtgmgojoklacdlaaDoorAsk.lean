/-
  The statements' questions to Pack and Unpack.
-/
import Derived.Test.YtgmgojoklacdlaaDoorPen
namespace Go.Proofs.YtgmgojoklacdlaaDoor
open Go.RowKit

set_option maxHeartbeats 400000 in
theorem packs_yes (p : Pn) (hp : p.Ok) (hv : validB p = true) (x : Int) (hx : wordI p = x) (w : World) :
    Calls Tryd.prog 12 #[p.v, .int .u64 x, .int .i64 0] w fun e w' => e = .returned (.bool true) ∧ New w w' := by
  subst hx
  have HV := Lib.hid hv
  clear hv
  go_enter Tryd.func12, Tryd.ntmps12
  go_wp2_with fail
  refine (Pack_yes p hp HV.out _).mono ?_
  rintro e w1 ⟨rfl, hn⟩
  have HN := Lib.hid ((New.alloc _).trans hn)
  clear hn
  go_wp2
  go_ret
  exact ⟨rfl, HN.out⟩

set_option maxHeartbeats 400000 in
theorem packs_no (p : Pn) (hv : validB p = false) (w : World) :
    Calls Tryd.prog 12 #[p.v, .int .u64 0, .int .i64 2] w fun e w' => e = .returned (.bool true) ∧ New w w' := by
  have HV := Lib.hid hv
  clear hv
  go_enter Tryd.func12, Tryd.ntmps12
  go_wp2_with fail
  refine (Pack_no p HV.out _).mono ?_
  rintro e w1 ⟨rfl, hn⟩
  have HN := Lib.hid ((New.alloc _).trans hn)
  clear hn
  go_wp2
  go_ret
  exact ⟨rfl, HN.out⟩

/-- What a copy of a pen beside another one compares as. -/
theorem eq_self (p : Pn) : ∀ w, (Op.equalIn 10000 27 (.agg p.cs) (.agg p.cs)).run Tryd.prog w = .ok true w := fun w => by
  have := eq_pen p p w
  rwa [decide_eq_true rfl] at this

set_option maxHeartbeats 800000 in
theorem unpacks_yes (x : Int) (h0 : 0 ≤ x) (h1 : x < 18446744073709551616) (p : Pn) (hp : penW x = p) (hx : wordI p = x) (w : World) :
    Calls Tryd.prog 15 #[.int .u64 x, p.v, .int .i64 0] w fun e w' => e = .returned (.bool true) ∧ New w w' := by
  have C := fun w => Unpack_yes x h0 h1 (by rw [hp, hx]) w
  rw [hp] at C
  have heq := eq_self p
  have gd := guard27
  clear hp hx
  go_enter Tryd.func15, Tryd.ntmps15
  go_wp2_with fail
  refine (C _).mono ?_
  rintro e w1 ⟨rfl, hn⟩
  have HN := Lib.hid ((New.alloc _).trans hn)
  obtain ⟨d0, d1, d2, d3, d4, d5, d6, d7, d8, d9, d10⟩ := (((Blk.new w 27 p.cs).fr hn (fun h => h)).alloc (.cells p.cs 27)).eleven
  clear hn C
  go_wp2
  go_ret
  exact ⟨rfl, HN.out.trans (New.alloc _)⟩

set_option maxHeartbeats 800000 in
theorem unpacks_no (x : Int) (h0 : 0 ≤ x) (h1 : x < 18446744073709551616) (hx : wordI (penW x) ≠ x) (w : World) :
    Calls Tryd.prog 15 #[.int .u64 x, zeroP.v, .int .i64 12] w fun e w' => e = .returned (.bool true) ∧ New w w' := by
  have C := fun w => Unpack_no x h0 h1 hx w
  have heq := eq_self zeroP
  have gd := guard27
  clear hx
  go_enter Tryd.func15, Tryd.ntmps15
  go_wp2_with fail
  refine (C _).mono ?_
  rintro e w1 ⟨rfl, hn⟩
  have HN := Lib.hid ((New.alloc _).trans hn)
  obtain ⟨d0, d1, d2, d3, d4, d5, d6, d7, d8, d9, d10⟩ := (((Blk.new w 27 zeroP.cs).fr hn (fun h => h)).alloc (.cells zeroP.cs 27)).eleven
  clear hn C
  go_wp2
  go_ret
  exact ⟨rfl, HN.out.trans (New.alloc _)⟩

end Go.Proofs.YtgmgojoklacdlaaDoor
