/-
  The short functions of package cell.
-/
import Derived.Test.YtjcpdldaimebbaaDoorCMark
import Derived.Deep.RegionHeld3
import Derived.BigQuiet
namespace Go.Proofs.YtjcpdldaimebbaaDoor
open Go.RowKit

set_option maxHeartbeats 800000 in
theorem isWideK (c : Ce) (b : Bool) (h : (c.wd == 2) = b) (w : World) :
    Calls Tryd.prog 53 #[c.v] w fun e w' => e = .returned (.bool b) ∧ New w w' := by
  subst h
  go_enter Tryd.func53, Tryd.ntmps53
  go_wp2_with fail
  go_ret
  exact ⟨rfl, New.alloc _⟩

set_option maxHeartbeats 800000 in
theorem isSpacerK (c : Ce) (b : Bool) (h : (c.wd == 0) = b) (w : World) :
    Calls Tryd.prog 55 #[c.v] w fun e w' => e = .returned (.bool b) ∧ New w w' := by
  subst h
  go_enter Tryd.func55, Tryd.ntmps55
  go_wp2_with fail
  go_ret
  exact ⟨rfl, New.alloc _⟩

set_option maxHeartbeats 800000 in
theorem WrittenK (c : Ce) (b : Bool) (h : (c.r != 0) = b) (w : World) :
    Calls Tryd.prog 63 #[c.v] w fun e w' => e = .returned (.bool b) ∧ New w w' := by
  subst h
  go_enter Tryd.func63, Tryd.ntmps63
  go_wp2_with fail
  go_ret
  exact ⟨rfl, New.alloc _⟩

set_option maxHeartbeats 800000 in
theorem BlankK (p : Pn) (w : World) :
    Calls Tryd.prog 50 #[p.v] w fun e w' => e = .returned (.agg (blankC p).cs) ∧ New w w' := by
  have HZ : Hid (Blk ((w.alloc (.cells p.cs 58)).alloc (.cells zeroCe.cs 60)) (w.heap.size + 1) 60 zeroCe.cs) := Lib.hid (by
    have := Blk.new (w.alloc (.cells p.cs 58)) 60 zeroCe.cs
    simpa using this)
  go_enter Tryd.func50, Tryd.ntmps50
  go_wp2_with (refine stC rfl _ _ rfl (w.heap.size + 1) zeroCe (blankC p) rfl rfl HZ.out ?_)
  intro w9 hz hf _
  have HB := Lib.hid hz
  have HN : Hid (New w w9) := Lib.hid (new_far ((New.alloc _).trans (New.alloc _)) hf (by omega))
  clear hz hf
  go_wp2_with fail
  exact ret_c rfl rfl HB.out rfl ⟨rfl, HN.out⟩

set_option maxHeartbeats 800000 in
theorem SpacerK (p : Pn) (w : World) :
    Calls Tryd.prog 59 #[p.v] w fun e w' => e = .returned (.agg (spaceC p).cs) ∧ New w w' := by
  have HZ : Hid (Blk ((w.alloc (.cells p.cs 58)).alloc (.cells zeroCe.cs 60)) (w.heap.size + 1) 60 zeroCe.cs) := Lib.hid (by
    have := Blk.new (w.alloc (.cells p.cs 58)) 60 zeroCe.cs
    simpa using this)
  go_enter Tryd.func59, Tryd.ntmps59
  go_wp2_with (refine stC rfl _ _ rfl (w.heap.size + 1) zeroCe (spaceC p) rfl rfl HZ.out ?_)
  intro w9 hz hf _
  have HB := Lib.hid hz
  have HN : Hid (New w w9) := Lib.hid (new_far ((New.alloc _).trans (New.alloc _)) hf (by omega))
  clear hz hf
  go_wp2_with fail
  exact ret_c rfl rfl HB.out rfl ⟨rfl, HN.out⟩

set_option maxHeartbeats 1600000 in
theorem EmptyK (c : Ce) (b : Bool) (h : decide (c = blankC zeroP) = b) (w : World) :
    Calls Tryd.prog 43 #[c.v] w fun e w' => e = .returned (.bool b) ∧ New w w' := by
  have heq : ∀ w, (Op.equalIn 10000 60 (.agg c.cs) (.agg (Ce.cs (blankC zeroP)))).run Tryd.prog w = .ok b w := eq_cells c (blankC zeroP) b h
  have gd := guardC
  have C1 := fun w => BlankK zeroP w
  clear h
  go_enter Tryd.func43, Tryd.ntmps43
  go_wp2_with fail
  have HN : Hid (New w (w.alloc (.cells c.cs 60))) := Lib.hid (New.alloc _)
  have HB := Lib.hid (Blk.new w 60 c.cs)
  generalize w.alloc (.cells c.cs 60) = W at *
  generalize w.heap.size = g at *
  have d := HB.out.sixteen
  go_region_held3 (fun w' => w'.cell? ⟨g, 0, none⟩ = some (.int .i32 c.r) ∧ w'.cell? ⟨g, 1, none⟩ = some (.int .i32 c.m0) ∧ w'.cell? ⟨g, 2, none⟩ = some (.int .i32 c.m1) ∧ w'.cell? ⟨g, 3, none⟩ = some (.int .i32 c.m2) ∧ w'.cell? ⟨g, 4, none⟩ = some (.int .i64 c.wd) ∧ w'.cell? ⟨g, 5, none⟩ = some (.int .i64 c.p.fore.k) ∧ w'.cell? ⟨g, 6, none⟩ = some (.int .u8 c.p.fore.i) ∧ w'.cell? ⟨g, 7, none⟩ = some (.int .u8 c.p.fore.r) ∧ w'.cell? ⟨g, 8, none⟩ = some (.int .u8 c.p.fore.g) ∧ w'.cell? ⟨g, 9, none⟩ = some (.int .u8 c.p.fore.b) ∧ w'.cell? ⟨g, 10, none⟩ = some (.int .i64 c.p.back.k) ∧ w'.cell? ⟨g, 11, none⟩ = some (.int .u8 c.p.back.i) ∧ w'.cell? ⟨g, 12, none⟩ = some (.int .u8 c.p.back.r) ∧ w'.cell? ⟨g, 13, none⟩ = some (.int .u8 c.p.back.g) ∧ w'.cell? ⟨g, 14, none⟩ = some (.int .u8 c.p.back.b) ∧ w'.cell? ⟨g, 15, none⟩ = some (.int .u8 c.p.fl)) (first | go_keep | exact HB.out.sixteen) ((go_at_call 50; refine (C1 _).mono ?_; rintro e w2 ⟨rfl, hn⟩; first | (have HB := Lib.hid (HB.out.fr hn.of_drew (fun h => h)); have HN := Lib.hid (HN.out.trans hn.of_drew); clear hn) | (have HB := Lib.hid (HB.out.fr hn (fun h => h)); have HN := Lib.hid (HN.out.trans hn); clear hn)))
  all_goals
    first | go_wp2 | skip
    go_ret
    exact ⟨rfl, HN.out⟩

end Go.Proofs.YtjcpdldaimebbaaDoor
