/-
  Package cell's Of.
-/
import Derived.Test.YtciifgajnblenaaDoorDSmall
import Derived.Test.YtciifgajnblenaaDoorDMarks
import Derived.Test.YtciifgajnblenaaDoorCFix
import Derived.Laws.OwnMore
namespace Go.Proofs.YtciifgajnblenaaDoor
open Go.RowKit

theorem PVO (p : Pn) (b : Bool) (h : validB p = b) (w : World) : Calls Tryd.prog 39 #[p.v] w fun e w' => e = .returned (.bool b) ∧ New w w' := by
  subst h
  exact Valid_any p w
/-- What Of answers: the cells of a rune in a row of its own. -/
def OfSaid (r : Int) (p : Pn) (w : World) (e : Ending) (w' : World) : Prop :=
  (∃ v, e = .returned (.tuple #[v, .int .i64 0]) ∧ w'.ownsRow w.heap.size 30 16 v (ofL r p).length (flatC (ofL r p))) ∧ New w w'
def OfNot (w : World) (e : Ending) (w' : World) : Prop := e = .returned (.tuple #[.slice none 0 0, .int .i64 2]) ∧ New w w'
theorem own_c {w : World} (base : Nat) (c : Ce) (hb : base ≤ w.heap.size) : (w.alloc (.cells c.cs 30)).ownsRow base 30 16 (.slice (some ⟨w.heap.size, 0, none⟩) 1 1) 1 (flatC [c]) := by
  have h := World.ownsRow_lit (base := base) (e := 30) (size := 16) w c.cs 1 hb (by unfold maxLen; omega) rfl
  have e : flatC [c] = c.cs.toList := by simp [flatC, Ce.ls]
  rw [e]
  exact h

set_option maxHeartbeats 1600000 in
theorem of_m (r : Int) (p : Pn) (hq : ofI r = -1) (w : World) (hT : Tab w) : Calls Tryd.prog 30 #[.int .i32 r, p.v] w (OfNot w) := by
  have C1 := fun w hT => OfK r (-1) hq w hT
  have HT := Lib.hid hT
  clear hq hT
  go_enter Tryd.func30, Tryd.ntmps30
  go_wp2_with fail
  have HN : Hid (New w (w.alloc (.cells p.cs 27))) := Lib.hid (New.alloc _)
  have HB := Lib.hid (Blk.new w 27 p.cs)
  generalize w.alloc (.cells p.cs 27) = W at *
  obtain ⟨g, hg⟩ : ∃ g, w.heap.size = g := ⟨_, rfl⟩
  rw [hg] at HB ⊢
  clear hg
  refine (C1 _ (HT.out.new HN.out)).mono ?_
  rintro e w1 ⟨rfl, hn⟩
  have HN := Lib.hid (HN.out.trans hn)
  have HB := Lib.hid (HB.out.fr hn (fun h => h))
  clear hn
  go_wp2_with fail
  go_ret2
  exact ⟨rfl, HN.out⟩

set_option maxHeartbeats 1600000 in
theorem of_z (r : Int) (p : Pn) (hq : ofI r = 0) (w : World) (hT : Tab w) : Calls Tryd.prog 30 #[.int .i32 r, p.v] w (OfNot w) := by
  have C1 := fun w hT => OfK r (0) hq w hT
  have HT := Lib.hid hT
  clear hq hT
  go_enter Tryd.func30, Tryd.ntmps30
  go_wp2_with fail
  have HN : Hid (New w (w.alloc (.cells p.cs 27))) := Lib.hid (New.alloc _)
  have HB := Lib.hid (Blk.new w 27 p.cs)
  generalize w.alloc (.cells p.cs 27) = W at *
  obtain ⟨g, hg⟩ : ∃ g, w.heap.size = g := ⟨_, rfl⟩
  rw [hg] at HB ⊢
  clear hg
  refine (C1 _ (HT.out.new HN.out)).mono ?_
  rintro e w1 ⟨rfl, hn⟩
  have HN := Lib.hid (HN.out.trans hn)
  have HB := Lib.hid (HB.out.fr hn (fun h => h))
  clear hn
  go_wp2_with fail
  go_ret2
  exact ⟨rfl, HN.out⟩

set_option maxHeartbeats 1600000 in
theorem of_p1 (r : Int) (p : Pn) (hq : ofI r = 1) (hp : validB p = false) (w : World) (hT : Tab w) : Calls Tryd.prog 30 #[.int .i32 r, p.v] w (OfNot w) := by
  have C1 := fun w hT => OfK r (1) hq w hT
  have C2 := fun w => PVO p false hp w
  have HT := Lib.hid hT
  clear hq hp hT
  go_enter Tryd.func30, Tryd.ntmps30
  go_wp2_with fail
  have HN : Hid (New w (w.alloc (.cells p.cs 27))) := Lib.hid (New.alloc _)
  have HB := Lib.hid (Blk.new w 27 p.cs)
  generalize w.alloc (.cells p.cs 27) = W at *
  obtain ⟨g, hg⟩ : ∃ g, w.heap.size = g := ⟨_, rfl⟩
  rw [hg] at HB ⊢
  clear hg
  refine (C1 _ (HT.out.new HN.out)).mono ?_
  rintro e w1 ⟨rfl, hn⟩
  have HN := Lib.hid (HN.out.trans hn)
  have HB := Lib.hid (HB.out.fr hn (fun h => h))
  clear hn
  obtain ⟨d0, d1, d2, d3, d4, d5, d6, d7, d8, d9, d10⟩ := HB.out.eleven
  go_wp2_with fail
  refine (C2 _).mono ?_
  rintro e w2 ⟨rfl, hn⟩
  have HN := Lib.hid (HN.out.trans hn)
  have HB := Lib.hid (HB.out.fr hn (fun h => h))
  clear hn d0 d1 d2 d3 d4 d5 d6 d7 d8 d9 d10
  go_wp2_with fail
  go_ret2
  exact ⟨rfl, HN.out⟩

set_option maxHeartbeats 3200000 in
theorem of_1 (r : Int) (p : Pn) (hq : ofI r = 1) (hp : validB p = true) (w : World) (hT : Tab w) : Calls Tryd.prog 30 #[.int .i32 r, p.v] w (OfSaid r p w) := by
  have C1 := fun w hT => OfK r (1) hq w hT
  have C2 := fun w => PVO p true hp w
  have C3 := fun w => isWideK ⟨r, 0, 0, 0, 1, p⟩ false rfl w
  have C4 := fun w => SpacerK p w
  have HL : Hid (ofL r p = [⟨r, 0, 0, 0, 1, p⟩]) := Lib.hid (by simp [ofL, hq])
  have HT := Lib.hid hT
  clear hq hp hT
  go_enter Tryd.func30, Tryd.ntmps30
  go_wp2_with fail
  have HN : Hid (New w (w.alloc (.cells p.cs 27))) := Lib.hid (New.alloc _)
  have HB := Lib.hid (Blk.new w 27 p.cs)
  generalize w.alloc (.cells p.cs 27) = W at *
  obtain ⟨g, hg⟩ : ∃ g, w.heap.size = g := ⟨_, rfl⟩
  rw [hg] at HB ⊢
  clear hg
  refine (C1 _ (HT.out.new HN.out)).mono ?_
  rintro e w1 ⟨rfl, hn⟩
  have HN := Lib.hid (HN.out.trans hn)
  have HB := Lib.hid (HB.out.fr hn (fun h => h))
  clear hn
  obtain ⟨d0, d1, d2, d3, d4, d5, d6, d7, d8, d9, d10⟩ := HB.out.eleven
  go_wp2_with fail
  refine (C2 _).mono ?_
  rintro e w2 ⟨rfl, hn⟩
  have HN := Lib.hid (HN.out.trans hn)
  have HB := Lib.hid (HB.out.fr hn (fun h => h))
  clear hn d0 d1 d2 d3 d4 d5 d6 d7 d8 d9 d10
  obtain ⟨d0, d1, d2, d3, d4, d5, d6, d7, d8, d9, d10⟩ := HB.out.eleven
  go_wp2_with fail
  have HO := Lib.hid (own_c (w := w2) w.heap.size ⟨r, 0, 0, 0, 1, p⟩ HN.out.size)
  have HN := Lib.hid (HN.out.trans (New.alloc (.cells (Ce.cs ⟨r, 0, 0, 0, 1, p⟩) 30)))
  have HB := Lib.hid (HB.out.alloc (.cells (Ce.cs ⟨r, 0, 0, 0, 1, p⟩) 30))
  generalize w2.alloc (.cells (Ce.cs ⟨r, 0, 0, 0, 1, p⟩) 30) = w3 at *
  generalize w2.heap.size = g3 at *
  clear d0 d1 d2 d3 d4 d5 d6 d7 d8 d9 d10
  refine (C3 _).mono ?_
  rintro e w4 ⟨rfl, hn⟩
  have HO := Lib.hid (own_fr HO.out hn (fun _ _ h => h))
  have HN := Lib.hid (HN.out.trans hn)
  have HB := Lib.hid (HB.out.fr hn (fun h => h))
  clear hn
  go_wp2_with fail
  go_ret2
  exact ⟨⟨_, rfl, by rw [HL.out]; exact HO.out⟩, HN.out⟩

set_option maxHeartbeats 1600000 in
theorem of_p2 (r : Int) (p : Pn) (hq : ofI r = 2) (hp : validB p = false) (w : World) (hT : Tab w) : Calls Tryd.prog 30 #[.int .i32 r, p.v] w (OfNot w) := by
  have C1 := fun w hT => OfK r (2) hq w hT
  have C2 := fun w => PVO p false hp w
  have HT := Lib.hid hT
  clear hq hp hT
  go_enter Tryd.func30, Tryd.ntmps30
  go_wp2_with fail
  have HN : Hid (New w (w.alloc (.cells p.cs 27))) := Lib.hid (New.alloc _)
  have HB := Lib.hid (Blk.new w 27 p.cs)
  generalize w.alloc (.cells p.cs 27) = W at *
  obtain ⟨g, hg⟩ : ∃ g, w.heap.size = g := ⟨_, rfl⟩
  rw [hg] at HB ⊢
  clear hg
  refine (C1 _ (HT.out.new HN.out)).mono ?_
  rintro e w1 ⟨rfl, hn⟩
  have HN := Lib.hid (HN.out.trans hn)
  have HB := Lib.hid (HB.out.fr hn (fun h => h))
  clear hn
  obtain ⟨d0, d1, d2, d3, d4, d5, d6, d7, d8, d9, d10⟩ := HB.out.eleven
  go_wp2_with fail
  refine (C2 _).mono ?_
  rintro e w2 ⟨rfl, hn⟩
  have HN := Lib.hid (HN.out.trans hn)
  have HB := Lib.hid (HB.out.fr hn (fun h => h))
  clear hn d0 d1 d2 d3 d4 d5 d6 d7 d8 d9 d10
  go_wp2_with fail
  go_ret2
  exact ⟨rfl, HN.out⟩

set_option maxHeartbeats 3200000 in
theorem of_2 (r : Int) (p : Pn) (hq : ofI r = 2) (hp : validB p = true) (w : World) (hT : Tab w) : Calls Tryd.prog 30 #[.int .i32 r, p.v] w (OfSaid r p w) := by
  have C1 := fun w hT => OfK r (2) hq w hT
  have C2 := fun w => PVO p true hp w
  have C3 := fun w => isWideK ⟨r, 0, 0, 0, 2, p⟩ true rfl w
  have C4 := fun w => SpacerK p w
  have HL : Hid (ofL r p = [⟨r, 0, 0, 0, 2, p⟩, spaceC p]) := Lib.hid (by simp [ofL, hq])
  have HT := Lib.hid hT
  clear hq hp hT
  go_enter Tryd.func30, Tryd.ntmps30
  go_wp2_with fail
  have HN : Hid (New w (w.alloc (.cells p.cs 27))) := Lib.hid (New.alloc _)
  have HB := Lib.hid (Blk.new w 27 p.cs)
  generalize w.alloc (.cells p.cs 27) = W at *
  obtain ⟨g, hg⟩ : ∃ g, w.heap.size = g := ⟨_, rfl⟩
  rw [hg] at HB ⊢
  clear hg
  refine (C1 _ (HT.out.new HN.out)).mono ?_
  rintro e w1 ⟨rfl, hn⟩
  have HN := Lib.hid (HN.out.trans hn)
  have HB := Lib.hid (HB.out.fr hn (fun h => h))
  clear hn
  obtain ⟨d0, d1, d2, d3, d4, d5, d6, d7, d8, d9, d10⟩ := HB.out.eleven
  go_wp2_with fail
  refine (C2 _).mono ?_
  rintro e w2 ⟨rfl, hn⟩
  have HN := Lib.hid (HN.out.trans hn)
  have HB := Lib.hid (HB.out.fr hn (fun h => h))
  clear hn d0 d1 d2 d3 d4 d5 d6 d7 d8 d9 d10
  obtain ⟨d0, d1, d2, d3, d4, d5, d6, d7, d8, d9, d10⟩ := HB.out.eleven
  go_wp2_with fail
  have HO := Lib.hid (own_c (w := w2) w.heap.size ⟨r, 0, 0, 0, 2, p⟩ HN.out.size)
  have HN := Lib.hid (HN.out.trans (New.alloc (.cells (Ce.cs ⟨r, 0, 0, 0, 2, p⟩) 30)))
  have HB := Lib.hid (HB.out.alloc (.cells (Ce.cs ⟨r, 0, 0, 0, 2, p⟩) 30))
  generalize w2.alloc (.cells (Ce.cs ⟨r, 0, 0, 0, 2, p⟩) 30) = w3 at *
  generalize w2.heap.size = g3 at *
  clear d0 d1 d2 d3 d4 d5 d6 d7 d8 d9 d10
  refine (C3 _).mono ?_
  rintro e w4 ⟨rfl, hn⟩
  have HO := Lib.hid (own_fr HO.out hn (fun _ _ h => h))
  have HN := Lib.hid (HN.out.trans hn)
  have HB := Lib.hid (HB.out.fr hn (fun h => h))
  clear hn
  obtain ⟨d0, d1, d2, d3, d4, d5, d6, d7, d8, d9, d10⟩ := HB.out.eleven
  go_wp2_with fail
  clear d0 d1 d2 d3 d4 d5 d6 d7 d8 d9 d10
  refine (C4 _).mono ?_
  rintro e w5 ⟨rfl, hn⟩
  have HO := Lib.hid (own_fr HO.out hn (fun _ _ h => h))
  have HN := Lib.hid (HN.out.trans hn)
  clear hn
  go_wp2_with (at_builtin; refine appC rfl _ _ rfl w.heap.size _ 1 [⟨r, 0, 0, 0, 2, p⟩] rfl (World.ownsRow.alloc HO.out _) w5.heap.size 0 1 1 [spaceC p] rfl (rdc_one w5 _) (by omega) ?c1 ?c2)
  case c1 => have := HN.out.size; simp; omega
  case c2 =>
  intro v2 w6 hown2 hg2
  have HN2 := Lib.hid (grown_fr (World.ownsRow.alloc HO.out _) hg2 (HN.out.trans (New.alloc _)) (Nat.le_refl _))
  have HO2 := Lib.hid hown2
  clear hown2 hg2
  go_wp2_with fail
  go_ret2
  exact ⟨⟨_, rfl, by rw [HL.out]; exact HO2.out⟩, HN2.out⟩

theorem ofI_cases (r : Int) : ofI r = -1 ∨ ofI r = 0 ∨ ofI r = 1 ∨ ofI r = 2 := by
  unfold ofI
  repeat' split
  all_goals simp
theorem COf_yes (r : Int) (p : Pn) (h : 1 ≤ ofI r) (hp : validB p = true) (w : World) (hT : Tab w) : Calls Tryd.prog 30 #[.int .i32 r, p.v] w (OfSaid r p w) := by
  rcases ofI_cases r with q | q | q | q
  · omega
  · omega
  · exact of_1 r p q hp w hT
  · exact of_2 r p q hp w hT
theorem COf_no (r : Int) (p : Pn) (h : ¬ 1 ≤ ofI r ∨ validB p = false) (w : World) (hT : Tab w) : Calls Tryd.prog 30 #[.int .i32 r, p.v] w (OfNot w) := by
  rcases ofI_cases r with q | q | q | q
  · exact of_m r p q w hT
  · exact of_z r p q w hT
  · exact of_p1 r p q (by rcases h with h | h; · omega
                          · exact h) w hT
  · exact of_p2 r p q (by rcases h with h | h; · omega
                          · exact h) w hT

end Go.Proofs.YtciifgajnblenaaDoor
