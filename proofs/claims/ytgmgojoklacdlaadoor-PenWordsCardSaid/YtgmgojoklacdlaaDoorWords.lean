/-
  The statement on the pen with any word.
-/
import Derived.Test.YtgmgojoklacdlaaDoorKnown
import Derived.Test.YtgmgojoklacdlaaDoorRUn
namespace Go.Proofs.YtgmgojoklacdlaaDoor
open Go.RowKit

set_option maxHeartbeats 1600000 in
theorem words_yes (x : Int) (h0 : 0 ≤ x) (h1 : x < 18446744073709551616) (p : Pn) (hp : penW x = p) (hx : wordI p = x) (w : World) (hT : Tab w) :
    Calls Tryd.prog 5 #[.int .u64 x] w fun e w' => e = .returned (.bool true) ∧ New w w' := by
  have C1 := fun w => RUnpack_any x h0 h1 w
  have C2 := fun w => unpacks_yes x h0 h1 p hp hx w
  have C3 := fun w => packs_yes p (hp ▸ penW_ok x) (hp ▸ validB_penW x) x hx w
  have e1 : (wordI (penW x) == x) = true := by rw [hp, hx]; simp
  rw [e1, hp] at C1
  have HT := Lib.hid hT
  clear hT hp hx e1
  go_enter Tryd.func5, Tryd.ntmps5
  go_wp2_with fail
  refine (C1 _).mono ?_
  rintro e w1 ⟨rfl, hn⟩
  have HN := Lib.hid (hn.trans (New.alloc (.cells p.cs 27)))
  have HB := Lib.hid (Blk.new w1 27 p.cs)
  clear hn
  obtain ⟨d0, d1, d2, d3, d4, d5, d6, d7, d8, d9, d10⟩ := HB.out.eleven
  go_wp2_with fail
  refine (C2 _).mono ?_
  rintro e w2 ⟨rfl, hn⟩
  have HN := Lib.hid (HN.out.trans hn)
  have HB := Lib.hid (HB.out.fr hn (fun h => h))
  clear hn d0 d1 d2 d3 d4 d5 d6 d7 d8 d9 d10
  obtain ⟨d0, d1, d2, d3, d4, d5, d6, d7, d8, d9, d10⟩ := HB.out.eleven
  go_wp2_with fail
  refine (C3 _).mono ?_
  rintro e w3 ⟨rfl, hn⟩
  have HN := Lib.hid (HN.out.trans hn)
  clear hn
  go_wp2_with fail
  refine (known_any _ (HT.out.new HN.out)).mono ?_
  rintro e w4 ⟨rfl, hn⟩
  have HN := Lib.hid (HN.out.trans hn)
  clear hn
  go_wp2_with fail
  go_ret
  exact ⟨rfl, HN.out⟩

set_option maxHeartbeats 1600000 in
theorem words_no (x : Int) (h0 : 0 ≤ x) (h1 : x < 18446744073709551616) (hx : wordI (penW x) ≠ x) (w : World) (hT : Tab w) :
    Calls Tryd.prog 5 #[.int .u64 x] w fun e w' => e = .returned (.bool true) ∧ New w w' := by
  have C1 := fun w => RUnpack_any x h0 h1 w
  have C2 := fun w => unpacks_no x h0 h1 hx w
  have e1 : (wordI (penW x) == x) = false := by simpa using hx
  rw [e1] at C1
  generalize penW x = p at C1
  have HT := Lib.hid hT
  clear hT hx e1
  go_enter Tryd.func5, Tryd.ntmps5
  go_wp2_with fail
  refine (C1 _).mono ?_
  rintro e w1 ⟨rfl, hn⟩
  have HN := Lib.hid (hn.trans (New.alloc (.cells p.cs 27)))
  clear hn
  go_wp2_with fail
  refine (C2 _).mono ?_
  rintro e w2 ⟨rfl, hn⟩
  have HN := Lib.hid (HN.out.trans hn)
  clear hn
  go_wp2_with fail
  refine (known_any _ (HT.out.new HN.out)).mono ?_
  rintro e w4 ⟨rfl, hn⟩
  have HN := Lib.hid (HN.out.trans hn)
  clear hn
  go_wp2_with fail
  go_ret
  exact ⟨rfl, HN.out⟩

theorem penWords_walk (a0 : Int) (h : (Lit.int .u64 a0).wf = true) (w : World) (hT : Tab w) :
    Calls Tryd.prog 5 #[.int .u64 a0] w fun e w' => e = .returned (.bool true) ∧ Below w.heap.size w w' := by
  have hb : 0 ≤ a0 ∧ a0 < 18446744073709551616 := by simp [Lit.wf, IntKind.min, IntKind.max, IntKind.bits, IntKind.signed] at h; omega
  by_cases hx : wordI (penW a0) = a0
  · exact (words_yes a0 hb.1 hb.2 _ rfl hx w hT).mono fun _ _ h => ⟨h.1, h.2.new_below⟩
  · exact (words_no a0 hb.1 hb.2 hx w hT).mono fun _ _ h => ⟨h.1, h.2.new_below⟩

end Go.Proofs.YtgmgojoklacdlaaDoor
