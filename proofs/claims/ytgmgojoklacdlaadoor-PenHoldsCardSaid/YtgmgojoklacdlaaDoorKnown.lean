/-
  The chapter's examples.
-/
import Derived.Test.YtgmgojoklacdlaaDoorWith
import Derived.Test.YtgmgojoklacdlaaDoorWord
namespace Go.Proofs.YtgmgojoklacdlaaDoor
open Go.RowKit

abbrev sevenP : Pn := ⟨⟨1, 7, 0, 0, 0⟩, zeroC, 0⟩
abbrev boldP : Pn := ⟨zeroC, zeroC, 1⟩
abbrev backP : Pn := ⟨zeroC, ⟨2, 0, 1, 2, 3⟩, 1⟩
abbrev badP : Pn := ⟨⟨3, 0, 0, 0, 0⟩, zeroC, 0⟩
theorem seven_ok : sevenP.Ok := ⟨by constructor <;> decide, zeroC_ok, by decide, by decide⟩
theorem back_ok : backP.Ok := ⟨zeroC_ok, by constructor <;> decide, by decide, by decide⟩

theorem VC (c : Co) (b : Bool) (h : colB c = b) (w : World) : Calls Tryd.prog 8 #[c.v] w fun e w' => e = .returned (.bool b) ∧ New w w' := by
  subst h
  exact ValidColor_any c w
theorem VP (p : Pn) (b : Bool) (h : validB p = b) (w : World) : Calls Tryd.prog 10 #[p.v] w fun e w' => e = .returned (.bool b) ∧ New w w' := by
  subst h
  exact Valid_any p w
theorem HP (p : Pn) (f : Int) (h0 : 0 ≤ f) (h1 : f ≤ 255) (b : Bool) (h : hasB p.fl f = b) (w : World) : Calls Tryd.prog 27 #[p.v, .int .u8 f] w fun e w' => e = .returned (.bool b) ∧ New w w' := by
  subst h
  exact Has_any p f h0 h1 w
theorem WP (w : World) : Calls Tryd.prog 26 #[zeroP.v, .int .u8 1, .bool true] w fun e w' => e = .returned (.tuple #[boldP.v, .int .i64 0]) ∧ New w w' := by
  have := With_yes zeroP (by decide) 1 (by decide) (by decide) (by decide) w
  have e : bits .or .u8 0 1 = 1 := by decide
  rwa [e] at this

theorem bold_no : ∀ j, j < 8 → wordS j ≠ ⟨#[66, 111, 108, 100]⟩ := by
  intro n hn e
  have h : n = 0 ∨ n = 1 ∨ n = 2 ∨ n = 3 ∨ n = 4 ∨ n = 5 ∨ n = 6 ∨ n = 7 := by omega
  have e' : (wordsL.getD n []).toArray = #[66, 111, 108, 100] := congrArg ByteArray.data e
  rcases h with rfl | rfl | rfl | rfl | rfl | rfl | rfl | rfl <;> revert e' <;> decide

set_option maxHeartbeats 8000000 in
theorem known_any (w : World) (hT : Tab w) : Calls Tryd.prog 13 #[] w fun e w' => e = .returned (.bool true) ∧ New w w' := by
  have HT := Lib.hid hT
  clear hT
  go_enter Tryd.func13, Tryd.ntmps13
  go_wp2_with fail
  refine (Index_any 7 _).mono ?_
  rintro e w0 ⟨rfl, hn⟩
  have HN := Lib.hid ((New.alloc (.cells zeroP.cs 27)).trans hn)
  have HZ := Lib.hid ((zeros w).fr hn (fun h => h))
  have HN := Lib.hid (HN.out.trans (New.alloc (.cells sevenP.cs 27)))
  have HZ := Lib.hid (HZ.out.alloc (.cells sevenP.cs 27))
  have HS := Lib.hid (Blk.new w0 27 sevenP.cs)
  clear hn
  generalize hg : w.heap.size = g at *
  generalize hg2 : w0.heap.size = g2 at *
  obtain ⟨a0, a1, a2, a3, a4, a5, a6, a7, a8, a9, a10⟩ := HZ.out.eleven
  obtain ⟨b0, b1, b2, b3, b4, b5, b6, b7, b8, b9, b10⟩ := HS.out.eleven
  go_wp2_with fail
  refine (VP zeroP true (by decide) _).mono ?_
  rintro e w1 ⟨rfl, hn⟩
  have HN := Lib.hid (HN.out.trans hn)
  have HZ := Lib.hid (HZ.out.fr hn (fun h => h))
  have HS := Lib.hid (HS.out.fr hn (fun h => h))
  clear hn a0 a1 a2 a3 a4 a5 a6 a7 a8 a9 a10 b0 b1 b2 b3 b4 b5 b6 b7 b8 b9 b10
  obtain ⟨a0, a1, a2, a3, a4, a5, a6, a7, a8, a9, a10⟩ := HZ.out.eleven
  obtain ⟨b0, b1, b2, b3, b4, b5, b6, b7, b8, b9, b10⟩ := HS.out.eleven
  go_wp2_with fail
  refine (VC ⟨0, 0, 0, 0, 1⟩ false (by decide) _).mono ?_
  rintro e w2 ⟨rfl, hn⟩
  have HN := Lib.hid (HN.out.trans hn)
  have HZ := Lib.hid (HZ.out.fr hn (fun h => h))
  have HS := Lib.hid (HS.out.fr hn (fun h => h))
  clear hn a0 a1 a2 a3 a4 a5 a6 a7 a8 a9 a10 b0 b1 b2 b3 b4 b5 b6 b7 b8 b9 b10
  obtain ⟨a0, a1, a2, a3, a4, a5, a6, a7, a8, a9, a10⟩ := HZ.out.eleven
  obtain ⟨b0, b1, b2, b3, b4, b5, b6, b7, b8, b9, b10⟩ := HS.out.eleven
  go_wp2_with fail
  refine (VC ⟨3, 0, 0, 0, 0⟩ false (by decide) _).mono ?_
  rintro e w3 ⟨rfl, hn⟩
  have HN := Lib.hid (HN.out.trans hn)
  have HZ := Lib.hid (HZ.out.fr hn (fun h => h))
  have HS := Lib.hid (HS.out.fr hn (fun h => h))
  clear hn a0 a1 a2 a3 a4 a5 a6 a7 a8 a9 a10 b0 b1 b2 b3 b4 b5 b6 b7 b8 b9 b10
  obtain ⟨a0, a1, a2, a3, a4, a5, a6, a7, a8, a9, a10⟩ := HZ.out.eleven
  obtain ⟨b0, b1, b2, b3, b4, b5, b6, b7, b8, b9, b10⟩ := HS.out.eleven
  go_wp2_with fail
  refine (Index_any 7 _).mono ?_
  rintro e w4 ⟨rfl, hn⟩
  have HN := Lib.hid (HN.out.trans hn)
  have HZ := Lib.hid (HZ.out.fr hn (fun h => h))
  have HS := Lib.hid (HS.out.fr hn (fun h => h))
  clear hn a0 a1 a2 a3 a4 a5 a6 a7 a8 a9 a10 b0 b1 b2 b3 b4 b5 b6 b7 b8 b9 b10
  obtain ⟨a0, a1, a2, a3, a4, a5, a6, a7, a8, a9, a10⟩ := HZ.out.eleven
  obtain ⟨b0, b1, b2, b3, b4, b5, b6, b7, b8, b9, b10⟩ := HS.out.eleven
  go_wp2_with fail
  refine (VC ⟨1, 7, 0, 0, 0⟩ true (by decide) _).mono ?_
  rintro e w5 ⟨rfl, hn⟩
  have HN := Lib.hid (HN.out.trans hn)
  have HZ := Lib.hid (HZ.out.fr hn (fun h => h))
  have HS := Lib.hid (HS.out.fr hn (fun h => h))
  clear hn a0 a1 a2 a3 a4 a5 a6 a7 a8 a9 a10 b0 b1 b2 b3 b4 b5 b6 b7 b8 b9 b10
  obtain ⟨a0, a1, a2, a3, a4, a5, a6, a7, a8, a9, a10⟩ := HZ.out.eleven
  obtain ⟨b0, b1, b2, b3, b4, b5, b6, b7, b8, b9, b10⟩ := HS.out.eleven
  go_wp2_with fail
  refine (VC ⟨1, 0, 1, 0, 0⟩ false (by decide) _).mono ?_
  rintro e w6 ⟨rfl, hn⟩
  have HN := Lib.hid (HN.out.trans hn)
  have HZ := Lib.hid (HZ.out.fr hn (fun h => h))
  have HS := Lib.hid (HS.out.fr hn (fun h => h))
  clear hn a0 a1 a2 a3 a4 a5 a6 a7 a8 a9 a10 b0 b1 b2 b3 b4 b5 b6 b7 b8 b9 b10
  obtain ⟨a0, a1, a2, a3, a4, a5, a6, a7, a8, a9, a10⟩ := HZ.out.eleven
  obtain ⟨b0, b1, b2, b3, b4, b5, b6, b7, b8, b9, b10⟩ := HS.out.eleven
  go_wp2_with fail
  refine (packs_yes zeroP zeroP_ok (by decide) 0 (by decide) _).mono ?_
  rintro e w7 ⟨rfl, hn⟩
  have HN := Lib.hid (HN.out.trans hn)
  have HZ := Lib.hid (HZ.out.fr hn (fun h => h))
  have HS := Lib.hid (HS.out.fr hn (fun h => h))
  clear hn a0 a1 a2 a3 a4 a5 a6 a7 a8 a9 a10 b0 b1 b2 b3 b4 b5 b6 b7 b8 b9 b10
  obtain ⟨a0, a1, a2, a3, a4, a5, a6, a7, a8, a9, a10⟩ := HZ.out.eleven
  obtain ⟨b0, b1, b2, b3, b4, b5, b6, b7, b8, b9, b10⟩ := HS.out.eleven
  go_wp2_with fail
  refine (packs_yes sevenP seven_ok (by decide) 16777223 (by decide) _).mono ?_
  rintro e w8 ⟨rfl, hn⟩
  have HN := Lib.hid (HN.out.trans hn)
  have HZ := Lib.hid (HZ.out.fr hn (fun h => h))
  have HS := Lib.hid (HS.out.fr hn (fun h => h))
  clear hn a0 a1 a2 a3 a4 a5 a6 a7 a8 a9 a10 b0 b1 b2 b3 b4 b5 b6 b7 b8 b9 b10
  obtain ⟨a0, a1, a2, a3, a4, a5, a6, a7, a8, a9, a10⟩ := HZ.out.eleven
  obtain ⟨b0, b1, b2, b3, b4, b5, b6, b7, b8, b9, b10⟩ := HS.out.eleven
  go_wp2_with fail
  refine (True_any 1 2 3 _).mono ?_
  rintro e w9 ⟨rfl, hn⟩
  have HN := Lib.hid (HN.out.trans hn)
  have HZ := Lib.hid (HZ.out.fr hn (fun h => h))
  have HS := Lib.hid (HS.out.fr hn (fun h => h))
  clear hn a0 a1 a2 a3 a4 a5 a6 a7 a8 a9 a10 b0 b1 b2 b3 b4 b5 b6 b7 b8 b9 b10
  obtain ⟨a0, a1, a2, a3, a4, a5, a6, a7, a8, a9, a10⟩ := HZ.out.eleven
  obtain ⟨b0, b1, b2, b3, b4, b5, b6, b7, b8, b9, b10⟩ := HS.out.eleven
  go_wp2_with fail
  refine (packs_yes backP back_ok (by decide) 6759832048631808 (by decide) _).mono ?_
  rintro e w10 ⟨rfl, hn⟩
  have HN := Lib.hid (HN.out.trans hn)
  have HZ := Lib.hid (HZ.out.fr hn (fun h => h))
  have HS := Lib.hid (HS.out.fr hn (fun h => h))
  clear hn a0 a1 a2 a3 a4 a5 a6 a7 a8 a9 a10 b0 b1 b2 b3 b4 b5 b6 b7 b8 b9 b10
  obtain ⟨a0, a1, a2, a3, a4, a5, a6, a7, a8, a9, a10⟩ := HZ.out.eleven
  obtain ⟨b0, b1, b2, b3, b4, b5, b6, b7, b8, b9, b10⟩ := HS.out.eleven
  go_wp2_with fail
  refine (packs_no badP (by decide) _).mono ?_
  rintro e w11 ⟨rfl, hn⟩
  have HN := Lib.hid (HN.out.trans hn)
  have HZ := Lib.hid (HZ.out.fr hn (fun h => h))
  have HS := Lib.hid (HS.out.fr hn (fun h => h))
  clear hn a0 a1 a2 a3 a4 a5 a6 a7 a8 a9 a10 b0 b1 b2 b3 b4 b5 b6 b7 b8 b9 b10
  obtain ⟨a0, a1, a2, a3, a4, a5, a6, a7, a8, a9, a10⟩ := HZ.out.eleven
  obtain ⟨b0, b1, b2, b3, b4, b5, b6, b7, b8, b9, b10⟩ := HS.out.eleven
  go_wp2_with fail
  refine (unpacks_yes 16777223 (by decide) (by decide) sevenP (by decide) (by decide) _).mono ?_
  rintro e w12 ⟨rfl, hn⟩
  have HN := Lib.hid (HN.out.trans hn)
  have HZ := Lib.hid (HZ.out.fr hn (fun h => h))
  have HS := Lib.hid (HS.out.fr hn (fun h => h))
  clear hn a0 a1 a2 a3 a4 a5 a6 a7 a8 a9 a10 b0 b1 b2 b3 b4 b5 b6 b7 b8 b9 b10
  obtain ⟨a0, a1, a2, a3, a4, a5, a6, a7, a8, a9, a10⟩ := HZ.out.eleven
  obtain ⟨b0, b1, b2, b3, b4, b5, b6, b7, b8, b9, b10⟩ := HS.out.eleven
  go_wp2_with fail
  refine (unpacks_no 16777472 (by decide) (by decide) (by decide) _).mono ?_
  rintro e w13 ⟨rfl, hn⟩
  have HN := Lib.hid (HN.out.trans hn)
  have HZ := Lib.hid (HZ.out.fr hn (fun h => h))
  have HS := Lib.hid (HS.out.fr hn (fun h => h))
  clear hn a0 a1 a2 a3 a4 a5 a6 a7 a8 a9 a10 b0 b1 b2 b3 b4 b5 b6 b7 b8 b9 b10
  obtain ⟨a0, a1, a2, a3, a4, a5, a6, a7, a8, a9, a10⟩ := HZ.out.eleven
  obtain ⟨b0, b1, b2, b3, b4, b5, b6, b7, b8, b9, b10⟩ := HS.out.eleven
  go_wp2_with fail
  refine (unpacks_no 1 (by decide) (by decide) (by decide) _).mono ?_
  rintro e w14 ⟨rfl, hn⟩
  have HN := Lib.hid (HN.out.trans hn)
  have HZ := Lib.hid (HZ.out.fr hn (fun h => h))
  have HS := Lib.hid (HS.out.fr hn (fun h => h))
  clear hn a0 a1 a2 a3 a4 a5 a6 a7 a8 a9 a10 b0 b1 b2 b3 b4 b5 b6 b7 b8 b9 b10
  obtain ⟨a0, a1, a2, a3, a4, a5, a6, a7, a8, a9, a10⟩ := HZ.out.eleven
  obtain ⟨b0, b1, b2, b3, b4, b5, b6, b7, b8, b9, b10⟩ := HS.out.eleven
  go_wp2_with fail
  refine (unpacks_no 50331648 (by decide) (by decide) (by decide) _).mono ?_
  rintro e w15 ⟨rfl, hn⟩
  have HN := Lib.hid (HN.out.trans hn)
  have HZ := Lib.hid (HZ.out.fr hn (fun h => h))
  have HS := Lib.hid (HS.out.fr hn (fun h => h))
  clear hn a0 a1 a2 a3 a4 a5 a6 a7 a8 a9 a10 b0 b1 b2 b3 b4 b5 b6 b7 b8 b9 b10
  obtain ⟨a0, a1, a2, a3, a4, a5, a6, a7, a8, a9, a10⟩ := HZ.out.eleven
  obtain ⟨b0, b1, b2, b3, b4, b5, b6, b7, b8, b9, b10⟩ := HS.out.eleven
  go_wp2_with fail
  refine (unpacks_no 1152921504606846976 (by decide) (by decide) (by decide) _).mono ?_
  rintro e w16 ⟨rfl, hn⟩
  have HN := Lib.hid (HN.out.trans hn)
  have HZ := Lib.hid (HZ.out.fr hn (fun h => h))
  have HS := Lib.hid (HS.out.fr hn (fun h => h))
  clear hn a0 a1 a2 a3 a4 a5 a6 a7 a8 a9 a10 b0 b1 b2 b3 b4 b5 b6 b7 b8 b9 b10
  obtain ⟨a0, a1, a2, a3, a4, a5, a6, a7, a8, a9, a10⟩ := HZ.out.eleven
  obtain ⟨b0, b1, b2, b3, b4, b5, b6, b7, b8, b9, b10⟩ := HS.out.eleven
  go_wp2_with fail
  refine (WP _).mono ?_
  rintro e w17 ⟨rfl, hn⟩
  have HN := Lib.hid (HN.out.trans hn)
  have HZ := Lib.hid (HZ.out.fr hn (fun h => h))
  have HS := Lib.hid (HS.out.fr hn (fun h => h))
  clear hn a0 a1 a2 a3 a4 a5 a6 a7 a8 a9 a10 b0 b1 b2 b3 b4 b5 b6 b7 b8 b9 b10
  have HB := Lib.hid (Blk.new w17 27 boldP.cs)
  have HN := Lib.hid (HN.out.trans (New.alloc (.cells boldP.cs 27)))
  have HZ := Lib.hid (HZ.out.alloc (.cells boldP.cs 27))
  have HS := Lib.hid (HS.out.alloc (.cells boldP.cs 27))
  generalize hg3 : w17.heap.size = g3 at *
  obtain ⟨a0, a1, a2, a3, a4, a5, a6, a7, a8, a9, a10⟩ := HZ.out.eleven
  obtain ⟨b0, b1, b2, b3, b4, b5, b6, b7, b8, b9, b10⟩ := HS.out.eleven
  obtain ⟨c0, c1, c2, c3, c4, c5, c6, c7, c8, c9, c10⟩ := HB.out.eleven
  go_wp2_with fail
  refine (HP boldP 1 (by decide) (by decide) true (by decide) _).mono ?_
  rintro e w18 ⟨rfl, hn⟩
  have HN := Lib.hid (HN.out.trans hn)
  have HZ := Lib.hid (HZ.out.fr hn (fun h => h))
  have HS := Lib.hid (HS.out.fr hn (fun h => h))
  have HB := Lib.hid (HB.out.fr hn (fun h => h))
  clear hn a0 a1 a2 a3 a4 a5 a6 a7 a8 a9 a10 b0 b1 b2 b3 b4 b5 b6 b7 b8 b9 b10 c0 c1 c2 c3 c4 c5 c6 c7 c8 c9 c10
  obtain ⟨a0, a1, a2, a3, a4, a5, a6, a7, a8, a9, a10⟩ := HZ.out.eleven
  obtain ⟨b0, b1, b2, b3, b4, b5, b6, b7, b8, b9, b10⟩ := HS.out.eleven
  obtain ⟨c0, c1, c2, c3, c4, c5, c6, c7, c8, c9, c10⟩ := HB.out.eleven
  go_wp2_with fail
  refine (HP boldP 2 (by decide) (by decide) false (by decide) _).mono ?_
  rintro e w19 ⟨rfl, hn⟩
  have HN := Lib.hid (HN.out.trans hn)
  have HZ := Lib.hid (HZ.out.fr hn (fun h => h))
  have HS := Lib.hid (HS.out.fr hn (fun h => h))
  have HB := Lib.hid (HB.out.fr hn (fun h => h))
  clear hn a0 a1 a2 a3 a4 a5 a6 a7 a8 a9 a10 b0 b1 b2 b3 b4 b5 b6 b7 b8 b9 b10 c0 c1 c2 c3 c4 c5 c6 c7 c8 c9 c10
  obtain ⟨a0, a1, a2, a3, a4, a5, a6, a7, a8, a9, a10⟩ := HZ.out.eleven
  obtain ⟨b0, b1, b2, b3, b4, b5, b6, b7, b8, b9, b10⟩ := HS.out.eleven
  obtain ⟨c0, c1, c2, c3, c4, c5, c6, c7, c8, c9, c10⟩ := HB.out.eleven
  go_wp2_with fail
  refine (with_no boldP (by decide) 3 (by decide) (by decide) (by decide) _).mono ?_
  rintro e w20 ⟨rfl, hn⟩
  have HN := Lib.hid (HN.out.trans hn)
  have HZ := Lib.hid (HZ.out.fr hn (fun h => h))
  have HS := Lib.hid (HS.out.fr hn (fun h => h))
  have HB := Lib.hid (HB.out.fr hn (fun h => h))
  clear hn a0 a1 a2 a3 a4 a5 a6 a7 a8 a9 a10 b0 b1 b2 b3 b4 b5 b6 b7 b8 b9 b10 c0 c1 c2 c3 c4 c5 c6 c7 c8 c9 c10
  obtain ⟨a0, a1, a2, a3, a4, a5, a6, a7, a8, a9, a10⟩ := HZ.out.eleven
  obtain ⟨b0, b1, b2, b3, b4, b5, b6, b7, b8, b9, b10⟩ := HS.out.eleven
  obtain ⟨c0, c1, c2, c3, c4, c5, c6, c7, c8, c9, c10⟩ := HB.out.eleven
  go_wp2_with fail
  refine (word_yes 7 (by decide) 128 (by decide) _ rfl _ (HT.out.new HN.out)).mono ?_
  rintro e w' ⟨rfl, rfl⟩
  go_wp2_with fail
  refine (word_no 3 (by decide) (by decide) (by decide) _).mono ?_
  rintro e w' ⟨rfl, rfl⟩
  go_wp2_with fail
  refine (byWord_yes 4 (by decide) 16 (by decide) _ rfl _ (HT.out.new HN.out)).mono ?_
  rintro e w' ⟨rfl, rfl⟩
  go_wp2_with fail
  refine (byWord_no _ bold_no _ (HT.out.new HN.out)).mono ?_
  rintro e w' ⟨rfl, rfl⟩
  go_wp2_with fail
  refine (All_any _).mono ?_
  rintro e w30 ⟨b, rfl, -, -, hn⟩
  have HN := Lib.hid (HN.out.trans hn)
  go_wp2_with fail
  go_ret
  exact ⟨rfl, HN.out⟩

end Go.Proofs.YtgmgojoklacdlaaDoor
