/-
  Which pens there are.
-/
import Derived.Test.YtjcpdldaimebbaaDoorPLeaf
namespace Go.Proofs.YtjcpdldaimebbaaDoor
open Go.RowKit

abbrev Pn.cs (p : Pn) : Array Value := #[.int .i64 p.fore.k, .int .u8 p.fore.i, .int .u8 p.fore.r, .int .u8 p.fore.g, .int .u8 p.fore.b, .int .i64 p.back.k, .int .u8 p.back.i, .int .u8 p.back.r, .int .u8 p.back.g, .int .u8 p.back.b, .int .u8 p.fl]

set_option maxHeartbeats 800000 in
theorem Valid_any (p : Pn) (w : World) :
    Calls Tryd.prog 62 #[p.v] w fun e w' => e = .returned (.bool (validB p)) ∧ New w w' := by
  have h1 := fun w => ValidColor_any p.fore w
  have h2 := fun w => ValidColor_any p.back w
  unfold validB
  cases hf : colB p.fore with
  | false =>
    rw [hf] at h1
    go_enter Tryd.func62, Tryd.ntmps62
    go_wp2_with (go_at_call 71; refine (h1 _).mono ?_; rintro e w1 ⟨rfl, hn⟩; have HN := Lib.hid ((New.alloc _).trans hn); clear hn)
    go_ret
    exact ⟨rfl, HN.out⟩
  | true =>
    rw [hf] at h1
    go_enter Tryd.func62, Tryd.ntmps62
    go_wp2_with fail
    refine (h1 _).mono ?_
    rintro e w1 ⟨rfl, hn⟩
    have HN := Lib.hid ((New.alloc _).trans hn)
    obtain ⟨d0, d1, d2, d3, d4, d5, d6, d7, d8, d9, d10⟩ := ((Blk.new w 58 p.cs).fr hn (fun h => h)).eleven
    clear hn
    go_wp2_with fail
    refine (h2 _).mono ?_
    rintro e w2 ⟨rfl, hn⟩
    have HN2 := Lib.hid (HN.out.trans hn)
    clear hn
    go_wp2_with fail
    go_ret
    exact ⟨rfl, HN2.out⟩

set_option maxHeartbeats 800000 in
theorem RValid_any (p : Pn) (w : World) :
    Calls Tryd.prog 67 #[p.v] w fun e w' => e = .returned (.bool (validB p)) ∧ New w w' := by
  have h1 := fun w => RColor_any p.fore w
  have h2 := fun w => RColor_any p.back w
  unfold validB
  cases hf : colB p.fore with
  | false =>
    rw [hf] at h1
    go_enter Tryd.func67, Tryd.ntmps67
    go_wp2_with (go_at_call 75; refine (h1 _).mono ?_; rintro e w1 ⟨rfl, hn⟩; have HN := Lib.hid ((New.alloc _).trans hn); clear hn)
    go_ret
    exact ⟨rfl, HN.out⟩
  | true =>
    rw [hf] at h1
    go_enter Tryd.func67, Tryd.ntmps67
    go_wp2_with fail
    refine (h1 _).mono ?_
    rintro e w1 ⟨rfl, hn⟩
    have HN := Lib.hid ((New.alloc _).trans hn)
    obtain ⟨d0, d1, d2, d3, d4, d5, d6, d7, d8, d9, d10⟩ := ((Blk.new w 58 p.cs).fr hn (fun h => h)).eleven
    clear hn
    go_wp2_with fail
    refine (h2 _).mono ?_
    rintro e w2 ⟨rfl, hn⟩
    have HN2 := Lib.hid (HN.out.trans hn)
    clear hn
    go_wp2_with fail
    go_ret
    exact ⟨rfl, HN2.out⟩

end Go.Proofs.YtjcpdldaimebbaaDoor
