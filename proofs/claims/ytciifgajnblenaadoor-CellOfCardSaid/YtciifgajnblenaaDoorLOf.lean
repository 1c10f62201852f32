/-
  CellOf.
-/
import Derived.Test.YtciifgajnblenaaDoorLKnown
import Derived.Test.YtciifgajnblenaaDoorCMarks
import Derived.Test.YtciifgajnblenaaDoorPValid
import Derived.Test.YtciifgajnblenaaDoorWRef
namespace Go.Proofs.YtciifgajnblenaaDoor
open Go.RowKit

theorem RPK (p : Pn) (b : Bool) (h : validB p = b) (w : World) : Calls Tryd.prog 11 #[p.v] w fun e w' => e = .returned (.bool b) ∧ New w w' := by
  subst h
  exact RValid_any p w
abbrev OfWalk (r : Int) (p : Pn) (w : World) : Prop := Calls Tryd.prog 3 #[.int .i32 r, p.v] w fun e w' => e = .returned (.bool true) ∧ Below w.heap.size w w'
set_option maxRecDepth 20000 in
set_option maxHeartbeats 3200000 in
theorem cellOf_m (r : Int) (p : Pn) (hq : ofI r = -1) (w : World) (hT : Tab w) : OfWalk r p w := by
  have C1 := fun w => ROf_k r (-1) hq w
  have HT := Lib.hid hT
  have HH : Hid (ofI r < 1 ∨ validB p = false) := Lib.hid (.inl (by omega))
  clear hq hT
  go_enter Tryd.func3, Tryd.ntmps3
  go_wp2_with fail
  have HN : Hid (New w (w.alloc (.cells p.cs 27))) := Lib.hid (New.alloc _)
  have HB := Lib.hid (Blk.new w 27 p.cs)
  generalize w.alloc (.cells p.cs 27) = W at *
  obtain ⟨g, hg⟩ : ∃ g, w.heap.size = g := ⟨_, rfl⟩
  rw [hg] at HB ⊢
  clear hg
  have h1 := eq_cells (blankC p) (blankC p) true (by simp)
  have h2 := eq_cells (spaceC p) (spaceC p) true (by simp)
  have gd := guardC
  refine wp_region_held_drew (S := (fun w' => w'.cell? ⟨g, 0, none⟩ = some (.int .i64 p.fore.k) ∧ w'.cell? ⟨g, 1, none⟩ = some (.int .u8 p.fore.i) ∧ w'.cell? ⟨g, 2, none⟩ = some (.int .u8 p.fore.r) ∧ w'.cell? ⟨g, 3, none⟩ = some (.int .u8 p.fore.g) ∧ w'.cell? ⟨g, 4, none⟩ = some (.int .u8 p.fore.b) ∧ w'.cell? ⟨g, 5, none⟩ = some (.int .i64 p.back.k) ∧ w'.cell? ⟨g, 6, none⟩ = some (.int .u8 p.back.i) ∧ w'.cell? ⟨g, 7, none⟩ = some (.int .u8 p.back.r) ∧ w'.cell? ⟨g, 8, none⟩ = some (.int .u8 p.back.g) ∧ w'.cell? ⟨g, 9, none⟩ = some (.int .u8 p.back.b) ∧ w'.cell? ⟨g, 10, none⟩ = some (.int .u8 p.fl))) (by kernel_rfl) ?_ (fun hHeld => ?_)
  · exact HB.out.eleven
  refine wpAnyH_take (fuel := 11) (i := 0) (v := ?_) rfl (by kernel_rfl) (by kernel_rfl) (by kernel_rfl) (fun _ _ _ h => h) (Or.inl ⟨by rfl, ?_⟩) (by assumption) ?_
  rotate_left
  · (intro w hSw; (try dsimp only at hSw); go_simp; first | done | with_reducible rfl)
  change wpAnyH _ _ _ _ _ 11 _ (Act.put _ (some 6) _) _
  simp only [Act.put, List.setIfInBounds_toArray, List.set_cons_zero, List.set_cons_succ]
  refine wpAnyH_take (fuel := 10) (i := 2) (v := ?_) rfl (by kernel_rfl) (by kernel_rfl) (by kernel_rfl) (fun _ _ _ h => h) (Or.inl ⟨by rfl, ?_⟩) (by assumption) ?_
  rotate_left
  · (intro w hSw; (try dsimp only at hSw); go_simp; first | done | with_reducible rfl)
  change wpAnyH _ _ _ _ _ 10 _ (Act.put _ (some 8) _) _
  simp only [Act.put, List.setIfInBounds_toArray, List.set_cons_zero, List.set_cons_succ]
  refine wpAnyH_take (fuel := 9) (i := 3) (v := ?_) rfl (by kernel_rfl) (by kernel_rfl) (by kernel_rfl) (fun _ _ _ h => h) (Or.inl ⟨by rfl, ?_⟩) (by assumption) ?_
  rotate_left
  · (intro w hSw; (try dsimp only at hSw); go_simp; first | done | with_reducible rfl)
  change wpAnyH _ _ _ _ _ 9 _ (Act.put _ (some 9) _) _
  simp only [Act.put, List.setIfInBounds_toArray, List.set_cons_zero, List.set_cons_succ]
  refine allH (fuel := 8) (i := 1) (by kernel_rfl) rfl (by rfl) ?_
  intro K hK
  refine wp_callF (f := 8) Tryd.func8 (by kernel_rfl) rfl rfl (vs := #[.agg #[.int .i64 p.fore.k, .int .u8 p.fore.i, .int .u8 p.fore.r, .int .u8 p.fore.g, .int .u8 p.fore.b, .int .i64 p.back.k, .int .u8 p.back.i, .int .u8 p.back.r, .int .u8 p.back.g, .int .u8 p.back.b, .int .u8 p.fl]]) (by simp only [List.map_toArray, List.map_cons, List.map_nil]; rfl) ?_
  refine (BlankK p _).mono ?_
  rintro e w2 ⟨rfl, hn⟩
  refine ⟨_, rfl, hK _ _ ((HB.out.drew.fr hn (fun h => h)).eleven) ?_⟩
  clear hK K hHeld
  have hHeld := (HB.out.drew.fr hn (fun h => h)).eleven
  have HB := Lib.hid (HB.out.drew.fr hn (fun h => h))
  have HN := Lib.hid (HN.out.trans hn.of_drew)
  clear hn
  change wpAnyH _ _ _ _ _ 8 _ (Act.put _ (some 7) _) _
  simp only [Act.put, List.setIfInBounds_toArray, List.set_cons_zero, List.set_cons_succ]
  refine wpAnyH_take (fuel := 7) (i := 4) (v := ?_) rfl (by kernel_rfl) (by kernel_rfl) (by kernel_rfl) (fun _ _ _ h => h) (Or.inl ⟨by rfl, ?_⟩) (by assumption) ?_
  rotate_left
  · (intro w hSw; (try dsimp only at hSw); go_simp; first | done | with_reducible rfl)
  change wpAnyH _ _ _ _ _ 7 _ (Act.put _ (some 10) _) _
  simp only [Act.put, List.setIfInBounds_toArray, List.set_cons_zero, List.set_cons_succ]
  refine wpAnyH_take (fuel := 6) (i := 5) (v := ?_) rfl (by kernel_rfl) (by kernel_rfl) (by kernel_rfl) (fun _ _ _ h => h) (Or.inl ⟨by rfl, ?_⟩) (by assumption) ?_
  rotate_left
  · (intro w hSw; (try dsimp only at hSw); go_simp; first | done | with_reducible rfl)
  change wpAnyH _ _ _ _ _ 6 _ (Act.put _ (some 11) _) _
  simp only [Act.put, List.setIfInBounds_toArray, List.set_cons_zero, List.set_cons_succ]
  refine wpAnyH_take (fuel := 5) (i := 6) (v := ?_) rfl (by kernel_rfl) (by kernel_rfl) (by kernel_rfl) (fun _ _ _ h => h) (Or.inl ⟨by rfl, ?_⟩) (by assumption) ?_
  rotate_left
  · (intro w hSw; (try dsimp only at hSw); go_simp; first | done | with_reducible rfl)
  change wpAnyH _ _ _ _ _ 5 _ (Act.put _ (some 12) _) _
  simp only [Act.put, List.setIfInBounds_toArray, List.set_cons_zero, List.set_cons_succ]
  refine wpAnyH_take (fuel := 4) (i := 8) (v := ?_) rfl (by kernel_rfl) (by kernel_rfl) (by kernel_rfl) (fun _ _ _ h => h) (Or.inl ⟨by rfl, ?_⟩) (by assumption) ?_
  rotate_left
  · (intro w hSw; (try dsimp only at hSw); go_simp; first | done | with_reducible rfl)
  change wpAnyH _ _ _ _ _ 4 _ (Act.put _ (some 14) _) _
  simp only [Act.put, List.setIfInBounds_toArray, List.set_cons_zero, List.set_cons_succ]
  refine wpAnyH_take (fuel := 3) (i := 9) (v := ?_) rfl (by kernel_rfl) (by kernel_rfl) (by kernel_rfl) (fun _ _ _ h => h) (Or.inl ⟨by rfl, ?_⟩) (by assumption) ?_
  rotate_left
  · (intro w hSw; (try dsimp only at hSw); go_simp; first | done | with_reducible rfl)
  change wpAnyH _ _ _ _ _ 3 _ (Act.put _ (some 15) _) _
  simp only [Act.put, List.setIfInBounds_toArray, List.set_cons_zero, List.set_cons_succ]
  refine allH (fuel := 2) (i := 7) (by kernel_rfl) rfl (by rfl) ?_
  intro K hK
  refine wp_callF (f := 9) Tryd.func9 (by kernel_rfl) rfl rfl (vs := #[.agg #[.int .i64 p.fore.k, .int .u8 p.fore.i, .int .u8 p.fore.r, .int .u8 p.fore.g, .int .u8 p.fore.b, .int .i64 p.back.k, .int .u8 p.back.i, .int .u8 p.back.r, .int .u8 p.back.g, .int .u8 p.back.b, .int .u8 p.fl]]) (by simp only [List.map_toArray, List.map_cons, List.map_nil]; rfl) ?_
  refine (SpacerK p _).mono ?_
  rintro e w3 ⟨rfl, hn⟩
  refine ⟨_, rfl, hK _ _ ((HB.out.fr hn (fun h => h)).eleven) ?_⟩
  clear hK K hHeld
  have hHeld := (HB.out.fr hn (fun h => h)).eleven
  have HB := Lib.hid (HB.out.fr hn (fun h => h))
  have HN := Lib.hid (HN.out.trans hn)
  clear hn
  change wpAnyH _ _ _ _ _ 2 _ (Act.put _ (some 13) _) _
  simp only [Act.put, List.setIfInBounds_toArray, List.set_cons_zero, List.set_cons_succ]
  refine wpAnyH_take (fuel := 1) (i := 10) (v := ?_) rfl (by kernel_rfl) (by kernel_rfl) (by kernel_rfl) (fun _ _ _ h => h) (Or.inl ⟨by rfl, ?_⟩) (by assumption) ?_
  rotate_left
  · (intro w hSw; (try dsimp only at hSw); go_simp; first | done | with_reducible rfl)
  change wpAnyH _ _ _ _ _ 1 _ (Act.put _ (some 16) _) _
  simp only [Act.put, List.setIfInBounds_toArray, List.set_cons_zero, List.set_cons_succ]
  refine wpAnyH_take (fuel := 0) (i := 11) (v := ?_) rfl (by kernel_rfl) (by kernel_rfl) (by kernel_rfl) (fun _ _ _ h => h) (Or.inl ⟨by rfl, ?_⟩) (by assumption) ?_
  rotate_left
  · (intro w hSw; (try dsimp only at hSw); go_simp; first | done | with_reducible rfl)
  change wpAnyH _ _ _ _ _ 0 _ (Act.put _ (some 17) _) _
  simp only [Act.put, List.setIfInBounds_toArray, List.set_cons_zero, List.set_cons_succ]
  refine wpAnyH_done (by kernel_rfl) ?_ _
  clear hHeld h1 h2 gd
  go_wp2_with fail
  refine (C1 _).mono ?_
  rintro e w4 ⟨rfl, hn⟩
  have HB := Lib.hid (HB.out.fr hn (fun h => h))
  have HN := Lib.hid (HN.out.trans hn)
  clear hn
  obtain ⟨d0, d1, d2, d3, d4, d5, d6, d7, d8, d9, d10⟩ := HB.out.eleven
  go_wp2_with fail
  refine (lof_no r p _ _ (Or.imp Int.not_le.2 id HH.out) _ (HT.out.new HN.out)).mono ?_
  rintro e w8 ⟨rfl, hn⟩
  have HN := Lib.hid (HN.out.trans hn)
  clear hn d0 d1 d2 d3 d4 d5 d6 d7 d8 d9 d10
  go_wp2_with fail
  refine (known_any _ (HT.out.new HN.out)).mono ?_
  rintro e w9 ⟨rfl, hn⟩
  have HN := Lib.hid (HN.out.trans hn)
  clear hn
  go_wp2_with fail
  go_ret
  exact ⟨rfl, HN.out.new_below⟩

set_option maxRecDepth 20000 in
set_option maxHeartbeats 3200000 in
theorem cellOf_z (r : Int) (p : Pn) (hq : ofI r = 0) (w : World) (hT : Tab w) : OfWalk r p w := by
  have C1 := fun w => ROf_k r (0) hq w
  have HT := Lib.hid hT
  have HH : Hid (ofI r < 1 ∨ validB p = false) := Lib.hid (.inl (by omega))
  clear hq hT
  go_enter Tryd.func3, Tryd.ntmps3
  go_wp2_with fail
  have HN : Hid (New w (w.alloc (.cells p.cs 27))) := Lib.hid (New.alloc _)
  have HB := Lib.hid (Blk.new w 27 p.cs)
  generalize w.alloc (.cells p.cs 27) = W at *
  obtain ⟨g, hg⟩ : ∃ g, w.heap.size = g := ⟨_, rfl⟩
  rw [hg] at HB ⊢
  clear hg
  have h1 := eq_cells (blankC p) (blankC p) true (by simp)
  have h2 := eq_cells (spaceC p) (spaceC p) true (by simp)
  have gd := guardC
  refine wp_region_held_drew (S := (fun w' => w'.cell? ⟨g, 0, none⟩ = some (.int .i64 p.fore.k) ∧ w'.cell? ⟨g, 1, none⟩ = some (.int .u8 p.fore.i) ∧ w'.cell? ⟨g, 2, none⟩ = some (.int .u8 p.fore.r) ∧ w'.cell? ⟨g, 3, none⟩ = some (.int .u8 p.fore.g) ∧ w'.cell? ⟨g, 4, none⟩ = some (.int .u8 p.fore.b) ∧ w'.cell? ⟨g, 5, none⟩ = some (.int .i64 p.back.k) ∧ w'.cell? ⟨g, 6, none⟩ = some (.int .u8 p.back.i) ∧ w'.cell? ⟨g, 7, none⟩ = some (.int .u8 p.back.r) ∧ w'.cell? ⟨g, 8, none⟩ = some (.int .u8 p.back.g) ∧ w'.cell? ⟨g, 9, none⟩ = some (.int .u8 p.back.b) ∧ w'.cell? ⟨g, 10, none⟩ = some (.int .u8 p.fl))) (by kernel_rfl) ?_ (fun hHeld => ?_)
  · exact HB.out.eleven
  refine wpAnyH_take (fuel := 11) (i := 0) (v := ?_) rfl (by kernel_rfl) (by kernel_rfl) (by kernel_rfl) (fun _ _ _ h => h) (Or.inl ⟨by rfl, ?_⟩) (by assumption) ?_
  rotate_left
  · (intro w hSw; (try dsimp only at hSw); go_simp; first | done | with_reducible rfl)
  change wpAnyH _ _ _ _ _ 11 _ (Act.put _ (some 6) _) _
  simp only [Act.put, List.setIfInBounds_toArray, List.set_cons_zero, List.set_cons_succ]
  refine wpAnyH_take (fuel := 10) (i := 2) (v := ?_) rfl (by kernel_rfl) (by kernel_rfl) (by kernel_rfl) (fun _ _ _ h => h) (Or.inl ⟨by rfl, ?_⟩) (by assumption) ?_
  rotate_left
  · (intro w hSw; (try dsimp only at hSw); go_simp; first | done | with_reducible rfl)
  change wpAnyH _ _ _ _ _ 10 _ (Act.put _ (some 8) _) _
  simp only [Act.put, List.setIfInBounds_toArray, List.set_cons_zero, List.set_cons_succ]
  refine wpAnyH_take (fuel := 9) (i := 3) (v := ?_) rfl (by kernel_rfl) (by kernel_rfl) (by kernel_rfl) (fun _ _ _ h => h) (Or.inl ⟨by rfl, ?_⟩) (by assumption) ?_
  rotate_left
  · (intro w hSw; (try dsimp only at hSw); go_simp; first | done | with_reducible rfl)
  change wpAnyH _ _ _ _ _ 9 _ (Act.put _ (some 9) _) _
  simp only [Act.put, List.setIfInBounds_toArray, List.set_cons_zero, List.set_cons_succ]
  refine allH (fuel := 8) (i := 1) (by kernel_rfl) rfl (by rfl) ?_
  intro K hK
  refine wp_callF (f := 8) Tryd.func8 (by kernel_rfl) rfl rfl (vs := #[.agg #[.int .i64 p.fore.k, .int .u8 p.fore.i, .int .u8 p.fore.r, .int .u8 p.fore.g, .int .u8 p.fore.b, .int .i64 p.back.k, .int .u8 p.back.i, .int .u8 p.back.r, .int .u8 p.back.g, .int .u8 p.back.b, .int .u8 p.fl]]) (by simp only [List.map_toArray, List.map_cons, List.map_nil]; rfl) ?_
  refine (BlankK p _).mono ?_
  rintro e w2 ⟨rfl, hn⟩
  refine ⟨_, rfl, hK _ _ ((HB.out.drew.fr hn (fun h => h)).eleven) ?_⟩
  clear hK K hHeld
  have hHeld := (HB.out.drew.fr hn (fun h => h)).eleven
  have HB := Lib.hid (HB.out.drew.fr hn (fun h => h))
  have HN := Lib.hid (HN.out.trans hn.of_drew)
  clear hn
  change wpAnyH _ _ _ _ _ 8 _ (Act.put _ (some 7) _) _
  simp only [Act.put, List.setIfInBounds_toArray, List.set_cons_zero, List.set_cons_succ]
  refine wpAnyH_take (fuel := 7) (i := 4) (v := ?_) rfl (by kernel_rfl) (by kernel_rfl) (by kernel_rfl) (fun _ _ _ h => h) (Or.inl ⟨by rfl, ?_⟩) (by assumption) ?_
  rotate_left
  · (intro w hSw; (try dsimp only at hSw); go_simp; first | done | with_reducible rfl)
  change wpAnyH _ _ _ _ _ 7 _ (Act.put _ (some 10) _) _
  simp only [Act.put, List.setIfInBounds_toArray, List.set_cons_zero, List.set_cons_succ]
  refine wpAnyH_take (fuel := 6) (i := 5) (v := ?_) rfl (by kernel_rfl) (by kernel_rfl) (by kernel_rfl) (fun _ _ _ h => h) (Or.inl ⟨by rfl, ?_⟩) (by assumption) ?_
  rotate_left
  · (intro w hSw; (try dsimp only at hSw); go_simp; first | done | with_reducible rfl)
  change wpAnyH _ _ _ _ _ 6 _ (Act.put _ (some 11) _) _
  simp only [Act.put, List.setIfInBounds_toArray, List.set_cons_zero, List.set_cons_succ]
  refine wpAnyH_take (fuel := 5) (i := 6) (v := ?_) rfl (by kernel_rfl) (by kernel_rfl) (by kernel_rfl) (fun _ _ _ h => h) (Or.inl ⟨by rfl, ?_⟩) (by assumption) ?_
  rotate_left
  · (intro w hSw; (try dsimp only at hSw); go_simp; first | done | with_reducible rfl)
  change wpAnyH _ _ _ _ _ 5 _ (Act.put _ (some 12) _) _
  simp only [Act.put, List.setIfInBounds_toArray, List.set_cons_zero, List.set_cons_succ]
  refine wpAnyH_take (fuel := 4) (i := 8) (v := ?_) rfl (by kernel_rfl) (by kernel_rfl) (by kernel_rfl) (fun _ _ _ h => h) (Or.inl ⟨by rfl, ?_⟩) (by assumption) ?_
  rotate_left
  · (intro w hSw; (try dsimp only at hSw); go_simp; first | done | with_reducible rfl)
  change wpAnyH _ _ _ _ _ 4 _ (Act.put _ (some 14) _) _
  simp only [Act.put, List.setIfInBounds_toArray, List.set_cons_zero, List.set_cons_succ]
  refine wpAnyH_take (fuel := 3) (i := 9) (v := ?_) rfl (by kernel_rfl) (by kernel_rfl) (by kernel_rfl) (fun _ _ _ h => h) (Or.inl ⟨by rfl, ?_⟩) (by assumption) ?_
  rotate_left
  · (intro w hSw; (try dsimp only at hSw); go_simp; first | done | with_reducible rfl)
  change wpAnyH _ _ _ _ _ 3 _ (Act.put _ (some 15) _) _
  simp only [Act.put, List.setIfInBounds_toArray, List.set_cons_zero, List.set_cons_succ]
  refine allH (fuel := 2) (i := 7) (by kernel_rfl) rfl (by rfl) ?_
  intro K hK
  refine wp_callF (f := 9) Tryd.func9 (by kernel_rfl) rfl rfl (vs := #[.agg #[.int .i64 p.fore.k, .int .u8 p.fore.i, .int .u8 p.fore.r, .int .u8 p.fore.g, .int .u8 p.fore.b, .int .i64 p.back.k, .int .u8 p.back.i, .int .u8 p.back.r, .int .u8 p.back.g, .int .u8 p.back.b, .int .u8 p.fl]]) (by simp only [List.map_toArray, List.map_cons, List.map_nil]; rfl) ?_
  refine (SpacerK p _).mono ?_
  rintro e w3 ⟨rfl, hn⟩
  refine ⟨_, rfl, hK _ _ ((HB.out.fr hn (fun h => h)).eleven) ?_⟩
  clear hK K hHeld
  have hHeld := (HB.out.fr hn (fun h => h)).eleven
  have HB := Lib.hid (HB.out.fr hn (fun h => h))
  have HN := Lib.hid (HN.out.trans hn)
  clear hn
  change wpAnyH _ _ _ _ _ 2 _ (Act.put _ (some 13) _) _
  simp only [Act.put, List.setIfInBounds_toArray, List.set_cons_zero, List.set_cons_succ]
  refine wpAnyH_take (fuel := 1) (i := 10) (v := ?_) rfl (by kernel_rfl) (by kernel_rfl) (by kernel_rfl) (fun _ _ _ h => h) (Or.inl ⟨by rfl, ?_⟩) (by assumption) ?_
  rotate_left
  · (intro w hSw; (try dsimp only at hSw); go_simp; first | done | with_reducible rfl)
  change wpAnyH _ _ _ _ _ 1 _ (Act.put _ (some 16) _) _
  simp only [Act.put, List.setIfInBounds_toArray, List.set_cons_zero, List.set_cons_succ]
  refine wpAnyH_take (fuel := 0) (i := 11) (v := ?_) rfl (by kernel_rfl) (by kernel_rfl) (by kernel_rfl) (fun _ _ _ h => h) (Or.inl ⟨by rfl, ?_⟩) (by assumption) ?_
  rotate_left
  · (intro w hSw; (try dsimp only at hSw); go_simp; first | done | with_reducible rfl)
  change wpAnyH _ _ _ _ _ 0 _ (Act.put _ (some 17) _) _
  simp only [Act.put, List.setIfInBounds_toArray, List.set_cons_zero, List.set_cons_succ]
  refine wpAnyH_done (by kernel_rfl) ?_ _
  clear hHeld h1 h2 gd
  go_wp2_with fail
  refine (C1 _).mono ?_
  rintro e w4 ⟨rfl, hn⟩
  have HB := Lib.hid (HB.out.fr hn (fun h => h))
  have HN := Lib.hid (HN.out.trans hn)
  clear hn
  obtain ⟨d0, d1, d2, d3, d4, d5, d6, d7, d8, d9, d10⟩ := HB.out.eleven
  go_wp2_with fail
  refine (lof_no r p _ _ (Or.imp Int.not_le.2 id HH.out) _ (HT.out.new HN.out)).mono ?_
  rintro e w8 ⟨rfl, hn⟩
  have HN := Lib.hid (HN.out.trans hn)
  clear hn d0 d1 d2 d3 d4 d5 d6 d7 d8 d9 d10
  go_wp2_with fail
  refine (known_any _ (HT.out.new HN.out)).mono ?_
  rintro e w9 ⟨rfl, hn⟩
  have HN := Lib.hid (HN.out.trans hn)
  clear hn
  go_wp2_with fail
  go_ret
  exact ⟨rfl, HN.out.new_below⟩

set_option maxRecDepth 20000 in
set_option maxHeartbeats 3200000 in
theorem cellOf_n1 (r : Int) (p : Pn) (hq : ofI r = 1) (hp : validB p = false) (w : World) (hT : Tab w) : OfWalk r p w := by
  have C1 := fun w => ROf_k r (1) hq w
  have C2 := fun w => RPK p false hp w
  have HT := Lib.hid hT
  have HH : Hid (ofI r < 1 ∨ validB p = false) := Lib.hid (.inr hp)
  clear hq hT hp
  go_enter Tryd.func3, Tryd.ntmps3
  go_wp2_with fail
  have HN : Hid (New w (w.alloc (.cells p.cs 27))) := Lib.hid (New.alloc _)
  have HB := Lib.hid (Blk.new w 27 p.cs)
  generalize w.alloc (.cells p.cs 27) = W at *
  obtain ⟨g, hg⟩ : ∃ g, w.heap.size = g := ⟨_, rfl⟩
  rw [hg] at HB ⊢
  clear hg
  have h1 := eq_cells (blankC p) (blankC p) true (by simp)
  have h2 := eq_cells (spaceC p) (spaceC p) true (by simp)
  have gd := guardC
  refine wp_region_held_drew (S := (fun w' => w'.cell? ⟨g, 0, none⟩ = some (.int .i64 p.fore.k) ∧ w'.cell? ⟨g, 1, none⟩ = some (.int .u8 p.fore.i) ∧ w'.cell? ⟨g, 2, none⟩ = some (.int .u8 p.fore.r) ∧ w'.cell? ⟨g, 3, none⟩ = some (.int .u8 p.fore.g) ∧ w'.cell? ⟨g, 4, none⟩ = some (.int .u8 p.fore.b) ∧ w'.cell? ⟨g, 5, none⟩ = some (.int .i64 p.back.k) ∧ w'.cell? ⟨g, 6, none⟩ = some (.int .u8 p.back.i) ∧ w'.cell? ⟨g, 7, none⟩ = some (.int .u8 p.back.r) ∧ w'.cell? ⟨g, 8, none⟩ = some (.int .u8 p.back.g) ∧ w'.cell? ⟨g, 9, none⟩ = some (.int .u8 p.back.b) ∧ w'.cell? ⟨g, 10, none⟩ = some (.int .u8 p.fl))) (by kernel_rfl) ?_ (fun hHeld => ?_)
  · exact HB.out.eleven
  refine wpAnyH_take (fuel := 11) (i := 0) (v := ?_) rfl (by kernel_rfl) (by kernel_rfl) (by kernel_rfl) (fun _ _ _ h => h) (Or.inl ⟨by rfl, ?_⟩) (by assumption) ?_
  rotate_left
  · (intro w hSw; (try dsimp only at hSw); go_simp; first | done | with_reducible rfl)
  change wpAnyH _ _ _ _ _ 11 _ (Act.put _ (some 6) _) _
  simp only [Act.put, List.setIfInBounds_toArray, List.set_cons_zero, List.set_cons_succ]
  refine wpAnyH_take (fuel := 10) (i := 2) (v := ?_) rfl (by kernel_rfl) (by kernel_rfl) (by kernel_rfl) (fun _ _ _ h => h) (Or.inl ⟨by rfl, ?_⟩) (by assumption) ?_
  rotate_left
  · (intro w hSw; (try dsimp only at hSw); go_simp; first | done | with_reducible rfl)
  change wpAnyH _ _ _ _ _ 10 _ (Act.put _ (some 8) _) _
  simp only [Act.put, List.setIfInBounds_toArray, List.set_cons_zero, List.set_cons_succ]
  refine wpAnyH_take (fuel := 9) (i := 3) (v := ?_) rfl (by kernel_rfl) (by kernel_rfl) (by kernel_rfl) (fun _ _ _ h => h) (Or.inl ⟨by rfl, ?_⟩) (by assumption) ?_
  rotate_left
  · (intro w hSw; (try dsimp only at hSw); go_simp; first | done | with_reducible rfl)
  change wpAnyH _ _ _ _ _ 9 _ (Act.put _ (some 9) _) _
  simp only [Act.put, List.setIfInBounds_toArray, List.set_cons_zero, List.set_cons_succ]
  refine allH (fuel := 8) (i := 1) (by kernel_rfl) rfl (by rfl) ?_
  intro K hK
  refine wp_callF (f := 8) Tryd.func8 (by kernel_rfl) rfl rfl (vs := #[.agg #[.int .i64 p.fore.k, .int .u8 p.fore.i, .int .u8 p.fore.r, .int .u8 p.fore.g, .int .u8 p.fore.b, .int .i64 p.back.k, .int .u8 p.back.i, .int .u8 p.back.r, .int .u8 p.back.g, .int .u8 p.back.b, .int .u8 p.fl]]) (by simp only [List.map_toArray, List.map_cons, List.map_nil]; rfl) ?_
  refine (BlankK p _).mono ?_
  rintro e w2 ⟨rfl, hn⟩
  refine ⟨_, rfl, hK _ _ ((HB.out.drew.fr hn (fun h => h)).eleven) ?_⟩
  clear hK K hHeld
  have hHeld := (HB.out.drew.fr hn (fun h => h)).eleven
  have HB := Lib.hid (HB.out.drew.fr hn (fun h => h))
  have HN := Lib.hid (HN.out.trans hn.of_drew)
  clear hn
  change wpAnyH _ _ _ _ _ 8 _ (Act.put _ (some 7) _) _
  simp only [Act.put, List.setIfInBounds_toArray, List.set_cons_zero, List.set_cons_succ]
  refine wpAnyH_take (fuel := 7) (i := 4) (v := ?_) rfl (by kernel_rfl) (by kernel_rfl) (by kernel_rfl) (fun _ _ _ h => h) (Or.inl ⟨by rfl, ?_⟩) (by assumption) ?_
  rotate_left
  · (intro w hSw; (try dsimp only at hSw); go_simp; first | done | with_reducible rfl)
  change wpAnyH _ _ _ _ _ 7 _ (Act.put _ (some 10) _) _
  simp only [Act.put, List.setIfInBounds_toArray, List.set_cons_zero, List.set_cons_succ]
  refine wpAnyH_take (fuel := 6) (i := 5) (v := ?_) rfl (by kernel_rfl) (by kernel_rfl) (by kernel_rfl) (fun _ _ _ h => h) (Or.inl ⟨by rfl, ?_⟩) (by assumption) ?_
  rotate_left
  · (intro w hSw; (try dsimp only at hSw); go_simp; first | done | with_reducible rfl)
  change wpAnyH _ _ _ _ _ 6 _ (Act.put _ (some 11) _) _
  simp only [Act.put, List.setIfInBounds_toArray, List.set_cons_zero, List.set_cons_succ]
  refine wpAnyH_take (fuel := 5) (i := 6) (v := ?_) rfl (by kernel_rfl) (by kernel_rfl) (by kernel_rfl) (fun _ _ _ h => h) (Or.inl ⟨by rfl, ?_⟩) (by assumption) ?_
  rotate_left
  · (intro w hSw; (try dsimp only at hSw); go_simp; first | done | with_reducible rfl)
  change wpAnyH _ _ _ _ _ 5 _ (Act.put _ (some 12) _) _
  simp only [Act.put, List.setIfInBounds_toArray, List.set_cons_zero, List.set_cons_succ]
  refine wpAnyH_take (fuel := 4) (i := 8) (v := ?_) rfl (by kernel_rfl) (by kernel_rfl) (by kernel_rfl) (fun _ _ _ h => h) (Or.inl ⟨by rfl, ?_⟩) (by assumption) ?_
  rotate_left
  · (intro w hSw; (try dsimp only at hSw); go_simp; first | done | with_reducible rfl)
  change wpAnyH _ _ _ _ _ 4 _ (Act.put _ (some 14) _) _
  simp only [Act.put, List.setIfInBounds_toArray, List.set_cons_zero, List.set_cons_succ]
  refine wpAnyH_take (fuel := 3) (i := 9) (v := ?_) rfl (by kernel_rfl) (by kernel_rfl) (by kernel_rfl) (fun _ _ _ h => h) (Or.inl ⟨by rfl, ?_⟩) (by assumption) ?_
  rotate_left
  · (intro w hSw; (try dsimp only at hSw); go_simp; first | done | with_reducible rfl)
  change wpAnyH _ _ _ _ _ 3 _ (Act.put _ (some 15) _) _
  simp only [Act.put, List.setIfInBounds_toArray, List.set_cons_zero, List.set_cons_succ]
  refine allH (fuel := 2) (i := 7) (by kernel_rfl) rfl (by rfl) ?_
  intro K hK
  refine wp_callF (f := 9) Tryd.func9 (by kernel_rfl) rfl rfl (vs := #[.agg #[.int .i64 p.fore.k, .int .u8 p.fore.i, .int .u8 p.fore.r, .int .u8 p.fore.g, .int .u8 p.fore.b, .int .i64 p.back.k, .int .u8 p.back.i, .int .u8 p.back.r, .int .u8 p.back.g, .int .u8 p.back.b, .int .u8 p.fl]]) (by simp only [List.map_toArray, List.map_cons, List.map_nil]; rfl) ?_
  refine (SpacerK p _).mono ?_
  rintro e w3 ⟨rfl, hn⟩
  refine ⟨_, rfl, hK _ _ ((HB.out.fr hn (fun h => h)).eleven) ?_⟩
  clear hK K hHeld
  have hHeld := (HB.out.fr hn (fun h => h)).eleven
  have HB := Lib.hid (HB.out.fr hn (fun h => h))
  have HN := Lib.hid (HN.out.trans hn)
  clear hn
  change wpAnyH _ _ _ _ _ 2 _ (Act.put _ (some 13) _) _
  simp only [Act.put, List.setIfInBounds_toArray, List.set_cons_zero, List.set_cons_succ]
  refine wpAnyH_take (fuel := 1) (i := 10) (v := ?_) rfl (by kernel_rfl) (by kernel_rfl) (by kernel_rfl) (fun _ _ _ h => h) (Or.inl ⟨by rfl, ?_⟩) (by assumption) ?_
  rotate_left
  · (intro w hSw; (try dsimp only at hSw); go_simp; first | done | with_reducible rfl)
  change wpAnyH _ _ _ _ _ 1 _ (Act.put _ (some 16) _) _
  simp only [Act.put, List.setIfInBounds_toArray, List.set_cons_zero, List.set_cons_succ]
  refine wpAnyH_take (fuel := 0) (i := 11) (v := ?_) rfl (by kernel_rfl) (by kernel_rfl) (by kernel_rfl) (fun _ _ _ h => h) (Or.inl ⟨by rfl, ?_⟩) (by assumption) ?_
  rotate_left
  · (intro w hSw; (try dsimp only at hSw); go_simp; first | done | with_reducible rfl)
  change wpAnyH _ _ _ _ _ 0 _ (Act.put _ (some 17) _) _
  simp only [Act.put, List.setIfInBounds_toArray, List.set_cons_zero, List.set_cons_succ]
  refine wpAnyH_done (by kernel_rfl) ?_ _
  clear hHeld h1 h2 gd
  go_wp2_with fail
  refine (C1 _).mono ?_
  rintro e w4 ⟨rfl, hn⟩
  have HB := Lib.hid (HB.out.fr hn (fun h => h))
  have HN := Lib.hid (HN.out.trans hn)
  clear hn
  obtain ⟨d0, d1, d2, d3, d4, d5, d6, d7, d8, d9, d10⟩ := HB.out.eleven
  go_wp2_with fail
  refine (C2 _).mono ?_
  rintro e w5 ⟨rfl, hn⟩
  clear d0 d1 d2 d3 d4 d5 d6 d7 d8 d9 d10
  have HB := Lib.hid (HB.out.fr hn (fun h => h))
  have HN := Lib.hid (HN.out.trans hn)
  clear hn
  obtain ⟨d0, d1, d2, d3, d4, d5, d6, d7, d8, d9, d10⟩ := HB.out.eleven
  go_wp2_with fail
  refine (lof_no r p _ _ (Or.imp Int.not_le.2 id HH.out) _ (HT.out.new HN.out)).mono ?_
  rintro e w8 ⟨rfl, hn⟩
  have HN := Lib.hid (HN.out.trans hn)
  clear hn d0 d1 d2 d3 d4 d5 d6 d7 d8 d9 d10
  go_wp2_with fail
  refine (known_any _ (HT.out.new HN.out)).mono ?_
  rintro e w9 ⟨rfl, hn⟩
  have HN := Lib.hid (HN.out.trans hn)
  clear hn
  go_wp2_with fail
  go_ret
  exact ⟨rfl, HN.out.new_below⟩

theorem rdof1 (r : Int) (p : Pn) (hq : ofI r = 1) (w : World) : RdC (w.alloc (.cells (Ce.cs ⟨r, 0, 0, 0, 1, p⟩) 30)) w.heap.size (some ⟨w.heap.size, 0, none⟩) 1 (ofL r p) := by
  have : ofL r p = [⟨r, 0, 0, 0, 1, p⟩] := by simp [ofL, hq]
  rw [this]
  exact rd1 w _
set_option maxRecDepth 20000 in
set_option maxHeartbeats 3200000 in
theorem cellOf_y1 (r : Int) (p : Pn) (hq : ofI r = 1) (hp : validB p = true) (w : World) (hT : Tab w) : OfWalk r p w := by
  have C1 := fun w => ROf_k r (1) hq w
  have C2 := fun w => RPK p true hp w
  have HT := Lib.hid hT
  have HQ := Lib.hid hq
  have HP := Lib.hid hp
  have HI : Hid (1 ≤ ofI r) := Lib.hid (by omega)
  clear hq hT hp
  go_enter Tryd.func3, Tryd.ntmps3
  go_wp2_with fail
  have HN : Hid (New w (w.alloc (.cells p.cs 27))) := Lib.hid (New.alloc _)
  have HB := Lib.hid (Blk.new w 27 p.cs)
  generalize w.alloc (.cells p.cs 27) = W at *
  obtain ⟨g, hg⟩ : ∃ g, w.heap.size = g := ⟨_, rfl⟩
  rw [hg] at HB ⊢
  clear hg
  have h1 := eq_cells (blankC p) (blankC p) true (by simp)
  have h2 := eq_cells (spaceC p) (spaceC p) true (by simp)
  have gd := guardC
  refine wp_region_held_drew (S := (fun w' => w'.cell? ⟨g, 0, none⟩ = some (.int .i64 p.fore.k) ∧ w'.cell? ⟨g, 1, none⟩ = some (.int .u8 p.fore.i) ∧ w'.cell? ⟨g, 2, none⟩ = some (.int .u8 p.fore.r) ∧ w'.cell? ⟨g, 3, none⟩ = some (.int .u8 p.fore.g) ∧ w'.cell? ⟨g, 4, none⟩ = some (.int .u8 p.fore.b) ∧ w'.cell? ⟨g, 5, none⟩ = some (.int .i64 p.back.k) ∧ w'.cell? ⟨g, 6, none⟩ = some (.int .u8 p.back.i) ∧ w'.cell? ⟨g, 7, none⟩ = some (.int .u8 p.back.r) ∧ w'.cell? ⟨g, 8, none⟩ = some (.int .u8 p.back.g) ∧ w'.cell? ⟨g, 9, none⟩ = some (.int .u8 p.back.b) ∧ w'.cell? ⟨g, 10, none⟩ = some (.int .u8 p.fl))) (by kernel_rfl) ?_ (fun hHeld => ?_)
  · exact HB.out.eleven
  refine wpAnyH_take (fuel := 11) (i := 0) (v := ?_) rfl (by kernel_rfl) (by kernel_rfl) (by kernel_rfl) (fun _ _ _ h => h) (Or.inl ⟨by rfl, ?_⟩) (by assumption) ?_
  rotate_left
  · (intro w hSw; (try dsimp only at hSw); go_simp; first | done | with_reducible rfl)
  change wpAnyH _ _ _ _ _ 11 _ (Act.put _ (some 6) _) _
  simp only [Act.put, List.setIfInBounds_toArray, List.set_cons_zero, List.set_cons_succ]
  refine wpAnyH_take (fuel := 10) (i := 2) (v := ?_) rfl (by kernel_rfl) (by kernel_rfl) (by kernel_rfl) (fun _ _ _ h => h) (Or.inl ⟨by rfl, ?_⟩) (by assumption) ?_
  rotate_left
  · (intro w hSw; (try dsimp only at hSw); go_simp; first | done | with_reducible rfl)
  change wpAnyH _ _ _ _ _ 10 _ (Act.put _ (some 8) _) _
  simp only [Act.put, List.setIfInBounds_toArray, List.set_cons_zero, List.set_cons_succ]
  refine wpAnyH_take (fuel := 9) (i := 3) (v := ?_) rfl (by kernel_rfl) (by kernel_rfl) (by kernel_rfl) (fun _ _ _ h => h) (Or.inl ⟨by rfl, ?_⟩) (by assumption) ?_
  rotate_left
  · (intro w hSw; (try dsimp only at hSw); go_simp; first | done | with_reducible rfl)
  change wpAnyH _ _ _ _ _ 9 _ (Act.put _ (some 9) _) _
  simp only [Act.put, List.setIfInBounds_toArray, List.set_cons_zero, List.set_cons_succ]
  refine allH (fuel := 8) (i := 1) (by kernel_rfl) rfl (by rfl) ?_
  intro K hK
  refine wp_callF (f := 8) Tryd.func8 (by kernel_rfl) rfl rfl (vs := #[.agg #[.int .i64 p.fore.k, .int .u8 p.fore.i, .int .u8 p.fore.r, .int .u8 p.fore.g, .int .u8 p.fore.b, .int .i64 p.back.k, .int .u8 p.back.i, .int .u8 p.back.r, .int .u8 p.back.g, .int .u8 p.back.b, .int .u8 p.fl]]) (by simp only [List.map_toArray, List.map_cons, List.map_nil]; rfl) ?_
  refine (BlankK p _).mono ?_
  rintro e w2 ⟨rfl, hn⟩
  refine ⟨_, rfl, hK _ _ ((HB.out.drew.fr hn (fun h => h)).eleven) ?_⟩
  clear hK K hHeld
  have hHeld := (HB.out.drew.fr hn (fun h => h)).eleven
  have HB := Lib.hid (HB.out.drew.fr hn (fun h => h))
  have HN := Lib.hid (HN.out.trans hn.of_drew)
  clear hn
  change wpAnyH _ _ _ _ _ 8 _ (Act.put _ (some 7) _) _
  simp only [Act.put, List.setIfInBounds_toArray, List.set_cons_zero, List.set_cons_succ]
  refine wpAnyH_take (fuel := 7) (i := 4) (v := ?_) rfl (by kernel_rfl) (by kernel_rfl) (by kernel_rfl) (fun _ _ _ h => h) (Or.inl ⟨by rfl, ?_⟩) (by assumption) ?_
  rotate_left
  · (intro w hSw; (try dsimp only at hSw); go_simp; first | done | with_reducible rfl)
  change wpAnyH _ _ _ _ _ 7 _ (Act.put _ (some 10) _) _
  simp only [Act.put, List.setIfInBounds_toArray, List.set_cons_zero, List.set_cons_succ]
  refine wpAnyH_take (fuel := 6) (i := 5) (v := ?_) rfl (by kernel_rfl) (by kernel_rfl) (by kernel_rfl) (fun _ _ _ h => h) (Or.inl ⟨by rfl, ?_⟩) (by assumption) ?_
  rotate_left
  · (intro w hSw; (try dsimp only at hSw); go_simp; first | done | with_reducible rfl)
  change wpAnyH _ _ _ _ _ 6 _ (Act.put _ (some 11) _) _
  simp only [Act.put, List.setIfInBounds_toArray, List.set_cons_zero, List.set_cons_succ]
  refine wpAnyH_take (fuel := 5) (i := 6) (v := ?_) rfl (by kernel_rfl) (by kernel_rfl) (by kernel_rfl) (fun _ _ _ h => h) (Or.inl ⟨by rfl, ?_⟩) (by assumption) ?_
  rotate_left
  · (intro w hSw; (try dsimp only at hSw); go_simp; first | done | with_reducible rfl)
  change wpAnyH _ _ _ _ _ 5 _ (Act.put _ (some 12) _) _
  simp only [Act.put, List.setIfInBounds_toArray, List.set_cons_zero, List.set_cons_succ]
  refine wpAnyH_take (fuel := 4) (i := 8) (v := ?_) rfl (by kernel_rfl) (by kernel_rfl) (by kernel_rfl) (fun _ _ _ h => h) (Or.inl ⟨by rfl, ?_⟩) (by assumption) ?_
  rotate_left
  · (intro w hSw; (try dsimp only at hSw); go_simp; first | done | with_reducible rfl)
  change wpAnyH _ _ _ _ _ 4 _ (Act.put _ (some 14) _) _
  simp only [Act.put, List.setIfInBounds_toArray, List.set_cons_zero, List.set_cons_succ]
  refine wpAnyH_take (fuel := 3) (i := 9) (v := ?_) rfl (by kernel_rfl) (by kernel_rfl) (by kernel_rfl) (fun _ _ _ h => h) (Or.inl ⟨by rfl, ?_⟩) (by assumption) ?_
  rotate_left
  · (intro w hSw; (try dsimp only at hSw); go_simp; first | done | with_reducible rfl)
  change wpAnyH _ _ _ _ _ 3 _ (Act.put _ (some 15) _) _
  simp only [Act.put, List.setIfInBounds_toArray, List.set_cons_zero, List.set_cons_succ]
  refine allH (fuel := 2) (i := 7) (by kernel_rfl) rfl (by rfl) ?_
  intro K hK
  refine wp_callF (f := 9) Tryd.func9 (by kernel_rfl) rfl rfl (vs := #[.agg #[.int .i64 p.fore.k, .int .u8 p.fore.i, .int .u8 p.fore.r, .int .u8 p.fore.g, .int .u8 p.fore.b, .int .i64 p.back.k, .int .u8 p.back.i, .int .u8 p.back.r, .int .u8 p.back.g, .int .u8 p.back.b, .int .u8 p.fl]]) (by simp only [List.map_toArray, List.map_cons, List.map_nil]; rfl) ?_
  refine (SpacerK p _).mono ?_
  rintro e w3 ⟨rfl, hn⟩
  refine ⟨_, rfl, hK _ _ ((HB.out.fr hn (fun h => h)).eleven) ?_⟩
  clear hK K hHeld
  have hHeld := (HB.out.fr hn (fun h => h)).eleven
  have HB := Lib.hid (HB.out.fr hn (fun h => h))
  have HN := Lib.hid (HN.out.trans hn)
  clear hn
  change wpAnyH _ _ _ _ _ 2 _ (Act.put _ (some 13) _) _
  simp only [Act.put, List.setIfInBounds_toArray, List.set_cons_zero, List.set_cons_succ]
  refine wpAnyH_take (fuel := 1) (i := 10) (v := ?_) rfl (by kernel_rfl) (by kernel_rfl) (by kernel_rfl) (fun _ _ _ h => h) (Or.inl ⟨by rfl, ?_⟩) (by assumption) ?_
  rotate_left
  · (intro w hSw; (try dsimp only at hSw); go_simp; first | done | with_reducible rfl)
  change wpAnyH _ _ _ _ _ 1 _ (Act.put _ (some 16) _) _
  simp only [Act.put, List.setIfInBounds_toArray, List.set_cons_zero, List.set_cons_succ]
  refine wpAnyH_take (fuel := 0) (i := 11) (v := ?_) rfl (by kernel_rfl) (by kernel_rfl) (by kernel_rfl) (fun _ _ _ h => h) (Or.inl ⟨by rfl, ?_⟩) (by assumption) ?_
  rotate_left
  · (intro w hSw; (try dsimp only at hSw); go_simp; first | done | with_reducible rfl)
  change wpAnyH _ _ _ _ _ 0 _ (Act.put _ (some 17) _) _
  simp only [Act.put, List.setIfInBounds_toArray, List.set_cons_zero, List.set_cons_succ]
  refine wpAnyH_done (by kernel_rfl) ?_ _
  clear hHeld h1 h2 gd
  go_wp2_with fail
  refine (C1 _).mono ?_
  rintro e w4 ⟨rfl, hn⟩
  have HB := Lib.hid (HB.out.fr hn (fun h => h))
  have HN := Lib.hid (HN.out.trans hn)
  clear hn
  obtain ⟨d0, d1, d2, d3, d4, d5, d6, d7, d8, d9, d10⟩ := HB.out.eleven
  go_wp2_with fail
  refine (C2 _).mono ?_
  rintro e w5 ⟨rfl, hn⟩
  clear d0 d1 d2 d3 d4 d5 d6 d7 d8 d9 d10
  have HB := Lib.hid (HB.out.fr hn (fun h => h))
  have HN := Lib.hid (HN.out.trans hn)
  clear hn
  obtain ⟨d0, d1, d2, d3, d4, d5, d6, d7, d8, d9, d10⟩ := HB.out.eleven
  go_wp2_with fail
  refine (lof_yes r p 1 w5.heap.size _ _ HI.out HP.out _ (rdof1 r p HQ.out w5) (by omega) (HT.out.new (HN.out.trans (New.alloc _)))).mono ?_
  rintro e w8 ⟨rfl, hn⟩
  have HN := Lib.hid (HN.out.trans ((New.alloc _).trans hn))
  clear hn d0 d1 d2 d3 d4 d5 d6 d7 d8 d9 d10
  go_wp2_with fail
  refine (known_any _ (HT.out.new HN.out)).mono ?_
  rintro e w9 ⟨rfl, hn⟩
  have HN := Lib.hid (HN.out.trans hn)
  clear hn
  go_wp2_with fail
  go_ret
  exact ⟨rfl, HN.out.new_below⟩

set_option maxRecDepth 20000 in
set_option maxHeartbeats 3200000 in
theorem cellOf_n2 (r : Int) (p : Pn) (hq : ofI r = 2) (hp : validB p = false) (w : World) (hT : Tab w) : OfWalk r p w := by
  have C1 := fun w => ROf_k r (2) hq w
  have C2 := fun w => RPK p false hp w
  have HT := Lib.hid hT
  have HH : Hid (ofI r < 1 ∨ validB p = false) := Lib.hid (.inr hp)
  clear hq hT hp
  go_enter Tryd.func3, Tryd.ntmps3
  go_wp2_with fail
  have HN : Hid (New w (w.alloc (.cells p.cs 27))) := Lib.hid (New.alloc _)
  have HB := Lib.hid (Blk.new w 27 p.cs)
  generalize w.alloc (.cells p.cs 27) = W at *
  obtain ⟨g, hg⟩ : ∃ g, w.heap.size = g := ⟨_, rfl⟩
  rw [hg] at HB ⊢
  clear hg
  have h1 := eq_cells (blankC p) (blankC p) true (by simp)
  have h2 := eq_cells (spaceC p) (spaceC p) true (by simp)
  have gd := guardC
  refine wp_region_held_drew (S := (fun w' => w'.cell? ⟨g, 0, none⟩ = some (.int .i64 p.fore.k) ∧ w'.cell? ⟨g, 1, none⟩ = some (.int .u8 p.fore.i) ∧ w'.cell? ⟨g, 2, none⟩ = some (.int .u8 p.fore.r) ∧ w'.cell? ⟨g, 3, none⟩ = some (.int .u8 p.fore.g) ∧ w'.cell? ⟨g, 4, none⟩ = some (.int .u8 p.fore.b) ∧ w'.cell? ⟨g, 5, none⟩ = some (.int .i64 p.back.k) ∧ w'.cell? ⟨g, 6, none⟩ = some (.int .u8 p.back.i) ∧ w'.cell? ⟨g, 7, none⟩ = some (.int .u8 p.back.r) ∧ w'.cell? ⟨g, 8, none⟩ = some (.int .u8 p.back.g) ∧ w'.cell? ⟨g, 9, none⟩ = some (.int .u8 p.back.b) ∧ w'.cell? ⟨g, 10, none⟩ = some (.int .u8 p.fl))) (by kernel_rfl) ?_ (fun hHeld => ?_)
  · exact HB.out.eleven
  refine wpAnyH_take (fuel := 11) (i := 0) (v := ?_) rfl (by kernel_rfl) (by kernel_rfl) (by kernel_rfl) (fun _ _ _ h => h) (Or.inl ⟨by rfl, ?_⟩) (by assumption) ?_
  rotate_left
  · (intro w hSw; (try dsimp only at hSw); go_simp; first | done | with_reducible rfl)
  change wpAnyH _ _ _ _ _ 11 _ (Act.put _ (some 6) _) _
  simp only [Act.put, List.setIfInBounds_toArray, List.set_cons_zero, List.set_cons_succ]
  refine wpAnyH_take (fuel := 10) (i := 2) (v := ?_) rfl (by kernel_rfl) (by kernel_rfl) (by kernel_rfl) (fun _ _ _ h => h) (Or.inl ⟨by rfl, ?_⟩) (by assumption) ?_
  rotate_left
  · (intro w hSw; (try dsimp only at hSw); go_simp; first | done | with_reducible rfl)
  change wpAnyH _ _ _ _ _ 10 _ (Act.put _ (some 8) _) _
  simp only [Act.put, List.setIfInBounds_toArray, List.set_cons_zero, List.set_cons_succ]
  refine wpAnyH_take (fuel := 9) (i := 3) (v := ?_) rfl (by kernel_rfl) (by kernel_rfl) (by kernel_rfl) (fun _ _ _ h => h) (Or.inl ⟨by rfl, ?_⟩) (by assumption) ?_
  rotate_left
  · (intro w hSw; (try dsimp only at hSw); go_simp; first | done | with_reducible rfl)
  change wpAnyH _ _ _ _ _ 9 _ (Act.put _ (some 9) _) _
  simp only [Act.put, List.setIfInBounds_toArray, List.set_cons_zero, List.set_cons_succ]
  refine allH (fuel := 8) (i := 1) (by kernel_rfl) rfl (by rfl) ?_
  intro K hK
  refine wp_callF (f := 8) Tryd.func8 (by kernel_rfl) rfl rfl (vs := #[.agg #[.int .i64 p.fore.k, .int .u8 p.fore.i, .int .u8 p.fore.r, .int .u8 p.fore.g, .int .u8 p.fore.b, .int .i64 p.back.k, .int .u8 p.back.i, .int .u8 p.back.r, .int .u8 p.back.g, .int .u8 p.back.b, .int .u8 p.fl]]) (by simp only [List.map_toArray, List.map_cons, List.map_nil]; rfl) ?_
  refine (BlankK p _).mono ?_
  rintro e w2 ⟨rfl, hn⟩
  refine ⟨_, rfl, hK _ _ ((HB.out.drew.fr hn (fun h => h)).eleven) ?_⟩
  clear hK K hHeld
  have hHeld := (HB.out.drew.fr hn (fun h => h)).eleven
  have HB := Lib.hid (HB.out.drew.fr hn (fun h => h))
  have HN := Lib.hid (HN.out.trans hn.of_drew)
  clear hn
  change wpAnyH _ _ _ _ _ 8 _ (Act.put _ (some 7) _) _
  simp only [Act.put, List.setIfInBounds_toArray, List.set_cons_zero, List.set_cons_succ]
  refine wpAnyH_take (fuel := 7) (i := 4) (v := ?_) rfl (by kernel_rfl) (by kernel_rfl) (by kernel_rfl) (fun _ _ _ h => h) (Or.inl ⟨by rfl, ?_⟩) (by assumption) ?_
  rotate_left
  · (intro w hSw; (try dsimp only at hSw); go_simp; first | done | with_reducible rfl)
  change wpAnyH _ _ _ _ _ 7 _ (Act.put _ (some 10) _) _
  simp only [Act.put, List.setIfInBounds_toArray, List.set_cons_zero, List.set_cons_succ]
  refine wpAnyH_take (fuel := 6) (i := 5) (v := ?_) rfl (by kernel_rfl) (by kernel_rfl) (by kernel_rfl) (fun _ _ _ h => h) (Or.inl ⟨by rfl, ?_⟩) (by assumption) ?_
  rotate_left
  · (intro w hSw; (try dsimp only at hSw); go_simp; first | done | with_reducible rfl)
  change wpAnyH _ _ _ _ _ 6 _ (Act.put _ (some 11) _) _
  simp only [Act.put, List.setIfInBounds_toArray, List.set_cons_zero, List.set_cons_succ]
  refine wpAnyH_take (fuel := 5) (i := 6) (v := ?_) rfl (by kernel_rfl) (by kernel_rfl) (by kernel_rfl) (fun _ _ _ h => h) (Or.inl ⟨by rfl, ?_⟩) (by assumption) ?_
  rotate_left
  · (intro w hSw; (try dsimp only at hSw); go_simp; first | done | with_reducible rfl)
  change wpAnyH _ _ _ _ _ 5 _ (Act.put _ (some 12) _) _
  simp only [Act.put, List.setIfInBounds_toArray, List.set_cons_zero, List.set_cons_succ]
  refine wpAnyH_take (fuel := 4) (i := 8) (v := ?_) rfl (by kernel_rfl) (by kernel_rfl) (by kernel_rfl) (fun _ _ _ h => h) (Or.inl ⟨by rfl, ?_⟩) (by assumption) ?_
  rotate_left
  · (intro w hSw; (try dsimp only at hSw); go_simp; first | done | with_reducible rfl)
  change wpAnyH _ _ _ _ _ 4 _ (Act.put _ (some 14) _) _
  simp only [Act.put, List.setIfInBounds_toArray, List.set_cons_zero, List.set_cons_succ]
  refine wpAnyH_take (fuel := 3) (i := 9) (v := ?_) rfl (by kernel_rfl) (by kernel_rfl) (by kernel_rfl) (fun _ _ _ h => h) (Or.inl ⟨by rfl, ?_⟩) (by assumption) ?_
  rotate_left
  · (intro w hSw; (try dsimp only at hSw); go_simp; first | done | with_reducible rfl)
  change wpAnyH _ _ _ _ _ 3 _ (Act.put _ (some 15) _) _
  simp only [Act.put, List.setIfInBounds_toArray, List.set_cons_zero, List.set_cons_succ]
  refine allH (fuel := 2) (i := 7) (by kernel_rfl) rfl (by rfl) ?_
  intro K hK
  refine wp_callF (f := 9) Tryd.func9 (by kernel_rfl) rfl rfl (vs := #[.agg #[.int .i64 p.fore.k, .int .u8 p.fore.i, .int .u8 p.fore.r, .int .u8 p.fore.g, .int .u8 p.fore.b, .int .i64 p.back.k, .int .u8 p.back.i, .int .u8 p.back.r, .int .u8 p.back.g, .int .u8 p.back.b, .int .u8 p.fl]]) (by simp only [List.map_toArray, List.map_cons, List.map_nil]; rfl) ?_
  refine (SpacerK p _).mono ?_
  rintro e w3 ⟨rfl, hn⟩
  refine ⟨_, rfl, hK _ _ ((HB.out.fr hn (fun h => h)).eleven) ?_⟩
  clear hK K hHeld
  have hHeld := (HB.out.fr hn (fun h => h)).eleven
  have HB := Lib.hid (HB.out.fr hn (fun h => h))
  have HN := Lib.hid (HN.out.trans hn)
  clear hn
  change wpAnyH _ _ _ _ _ 2 _ (Act.put _ (some 13) _) _
  simp only [Act.put, List.setIfInBounds_toArray, List.set_cons_zero, List.set_cons_succ]
  refine wpAnyH_take (fuel := 1) (i := 10) (v := ?_) rfl (by kernel_rfl) (by kernel_rfl) (by kernel_rfl) (fun _ _ _ h => h) (Or.inl ⟨by rfl, ?_⟩) (by assumption) ?_
  rotate_left
  · (intro w hSw; (try dsimp only at hSw); go_simp; first | done | with_reducible rfl)
  change wpAnyH _ _ _ _ _ 1 _ (Act.put _ (some 16) _) _
  simp only [Act.put, List.setIfInBounds_toArray, List.set_cons_zero, List.set_cons_succ]
  refine wpAnyH_take (fuel := 0) (i := 11) (v := ?_) rfl (by kernel_rfl) (by kernel_rfl) (by kernel_rfl) (fun _ _ _ h => h) (Or.inl ⟨by rfl, ?_⟩) (by assumption) ?_
  rotate_left
  · (intro w hSw; (try dsimp only at hSw); go_simp; first | done | with_reducible rfl)
  change wpAnyH _ _ _ _ _ 0 _ (Act.put _ (some 17) _) _
  simp only [Act.put, List.setIfInBounds_toArray, List.set_cons_zero, List.set_cons_succ]
  refine wpAnyH_done (by kernel_rfl) ?_ _
  clear hHeld h1 h2 gd
  go_wp2_with fail
  refine (C1 _).mono ?_
  rintro e w4 ⟨rfl, hn⟩
  have HB := Lib.hid (HB.out.fr hn (fun h => h))
  have HN := Lib.hid (HN.out.trans hn)
  clear hn
  obtain ⟨d0, d1, d2, d3, d4, d5, d6, d7, d8, d9, d10⟩ := HB.out.eleven
  go_wp2_with fail
  refine (C2 _).mono ?_
  rintro e w5 ⟨rfl, hn⟩
  clear d0 d1 d2 d3 d4 d5 d6 d7 d8 d9 d10
  have HB := Lib.hid (HB.out.fr hn (fun h => h))
  have HN := Lib.hid (HN.out.trans hn)
  clear hn
  obtain ⟨d0, d1, d2, d3, d4, d5, d6, d7, d8, d9, d10⟩ := HB.out.eleven
  go_wp2_with fail
  refine (lof_no r p _ _ (Or.imp Int.not_le.2 id HH.out) _ (HT.out.new HN.out)).mono ?_
  rintro e w8 ⟨rfl, hn⟩
  have HN := Lib.hid (HN.out.trans hn)
  clear hn d0 d1 d2 d3 d4 d5 d6 d7 d8 d9 d10
  go_wp2_with fail
  refine (known_any _ (HT.out.new HN.out)).mono ?_
  rintro e w9 ⟨rfl, hn⟩
  have HN := Lib.hid (HN.out.trans hn)
  clear hn
  go_wp2_with fail
  go_ret
  exact ⟨rfl, HN.out.new_below⟩

theorem rdof2 (r : Int) (p : Pn) (hq : ofI r = 2) (w : World) : RdC (w.alloc (.cells (cs2 ⟨r, 0, 0, 0, 2, p⟩ (spaceC p)) 30)) w.heap.size (some ⟨w.heap.size, 0, none⟩) 2 (ofL r p) := by
  have : ofL r p = [⟨r, 0, 0, 0, 2, p⟩, spaceC p] := by simp [ofL, hq]
  rw [this]
  exact rd2 w _ _
set_option maxRecDepth 20000 in
set_option maxHeartbeats 3200000 in
theorem cellOf_y2 (r : Int) (p : Pn) (hq : ofI r = 2) (hp : validB p = true) (w : World) (hT : Tab w) : OfWalk r p w := by
  have C1 := fun w => ROf_k r (2) hq w
  have C2 := fun w => RPK p true hp w
  have HT := Lib.hid hT
  have HQ := Lib.hid hq
  have HP := Lib.hid hp
  have HI : Hid (1 ≤ ofI r) := Lib.hid (by omega)
  clear hq hT hp
  go_enter Tryd.func3, Tryd.ntmps3
  go_wp2_with fail
  have HN : Hid (New w (w.alloc (.cells p.cs 27))) := Lib.hid (New.alloc _)
  have HB := Lib.hid (Blk.new w 27 p.cs)
  generalize w.alloc (.cells p.cs 27) = W at *
  obtain ⟨g, hg⟩ : ∃ g, w.heap.size = g := ⟨_, rfl⟩
  rw [hg] at HB ⊢
  clear hg
  have h1 := eq_cells (blankC p) (blankC p) true (by simp)
  have h2 := eq_cells (spaceC p) (spaceC p) true (by simp)
  have gd := guardC
  refine wp_region_held_drew (S := (fun w' => w'.cell? ⟨g, 0, none⟩ = some (.int .i64 p.fore.k) ∧ w'.cell? ⟨g, 1, none⟩ = some (.int .u8 p.fore.i) ∧ w'.cell? ⟨g, 2, none⟩ = some (.int .u8 p.fore.r) ∧ w'.cell? ⟨g, 3, none⟩ = some (.int .u8 p.fore.g) ∧ w'.cell? ⟨g, 4, none⟩ = some (.int .u8 p.fore.b) ∧ w'.cell? ⟨g, 5, none⟩ = some (.int .i64 p.back.k) ∧ w'.cell? ⟨g, 6, none⟩ = some (.int .u8 p.back.i) ∧ w'.cell? ⟨g, 7, none⟩ = some (.int .u8 p.back.r) ∧ w'.cell? ⟨g, 8, none⟩ = some (.int .u8 p.back.g) ∧ w'.cell? ⟨g, 9, none⟩ = some (.int .u8 p.back.b) ∧ w'.cell? ⟨g, 10, none⟩ = some (.int .u8 p.fl))) (by kernel_rfl) ?_ (fun hHeld => ?_)
  · exact HB.out.eleven
  refine wpAnyH_take (fuel := 11) (i := 0) (v := ?_) rfl (by kernel_rfl) (by kernel_rfl) (by kernel_rfl) (fun _ _ _ h => h) (Or.inl ⟨by rfl, ?_⟩) (by assumption) ?_
  rotate_left
  · (intro w hSw; (try dsimp only at hSw); go_simp; first | done | with_reducible rfl)
  change wpAnyH _ _ _ _ _ 11 _ (Act.put _ (some 6) _) _
  simp only [Act.put, List.setIfInBounds_toArray, List.set_cons_zero, List.set_cons_succ]
  refine wpAnyH_take (fuel := 10) (i := 2) (v := ?_) rfl (by kernel_rfl) (by kernel_rfl) (by kernel_rfl) (fun _ _ _ h => h) (Or.inl ⟨by rfl, ?_⟩) (by assumption) ?_
  rotate_left
  · (intro w hSw; (try dsimp only at hSw); go_simp; first | done | with_reducible rfl)
  change wpAnyH _ _ _ _ _ 10 _ (Act.put _ (some 8) _) _
  simp only [Act.put, List.setIfInBounds_toArray, List.set_cons_zero, List.set_cons_succ]
  refine wpAnyH_take (fuel := 9) (i := 3) (v := ?_) rfl (by kernel_rfl) (by kernel_rfl) (by kernel_rfl) (fun _ _ _ h => h) (Or.inl ⟨by rfl, ?_⟩) (by assumption) ?_
  rotate_left
  · (intro w hSw; (try dsimp only at hSw); go_simp; first | done | with_reducible rfl)
  change wpAnyH _ _ _ _ _ 9 _ (Act.put _ (some 9) _) _
  simp only [Act.put, List.setIfInBounds_toArray, List.set_cons_zero, List.set_cons_succ]
  refine allH (fuel := 8) (i := 1) (by kernel_rfl) rfl (by rfl) ?_
  intro K hK
  refine wp_callF (f := 8) Tryd.func8 (by kernel_rfl) rfl rfl (vs := #[.agg #[.int .i64 p.fore.k, .int .u8 p.fore.i, .int .u8 p.fore.r, .int .u8 p.fore.g, .int .u8 p.fore.b, .int .i64 p.back.k, .int .u8 p.back.i, .int .u8 p.back.r, .int .u8 p.back.g, .int .u8 p.back.b, .int .u8 p.fl]]) (by simp only [List.map_toArray, List.map_cons, List.map_nil]; rfl) ?_
  refine (BlankK p _).mono ?_
  rintro e w2 ⟨rfl, hn⟩
  refine ⟨_, rfl, hK _ _ ((HB.out.drew.fr hn (fun h => h)).eleven) ?_⟩
  clear hK K hHeld
  have hHeld := (HB.out.drew.fr hn (fun h => h)).eleven
  have HB := Lib.hid (HB.out.drew.fr hn (fun h => h))
  have HN := Lib.hid (HN.out.trans hn.of_drew)
  clear hn
  change wpAnyH _ _ _ _ _ 8 _ (Act.put _ (some 7) _) _
  simp only [Act.put, List.setIfInBounds_toArray, List.set_cons_zero, List.set_cons_succ]
  refine wpAnyH_take (fuel := 7) (i := 4) (v := ?_) rfl (by kernel_rfl) (by kernel_rfl) (by kernel_rfl) (fun _ _ _ h => h) (Or.inl ⟨by rfl, ?_⟩) (by assumption) ?_
  rotate_left
  · (intro w hSw; (try dsimp only at hSw); go_simp; first | done | with_reducible rfl)
  change wpAnyH _ _ _ _ _ 7 _ (Act.put _ (some 10) _) _
  simp only [Act.put, List.setIfInBounds_toArray, List.set_cons_zero, List.set_cons_succ]
  refine wpAnyH_take (fuel := 6) (i := 5) (v := ?_) rfl (by kernel_rfl) (by kernel_rfl) (by kernel_rfl) (fun _ _ _ h => h) (Or.inl ⟨by rfl, ?_⟩) (by assumption) ?_
  rotate_left
  · (intro w hSw; (try dsimp only at hSw); go_simp; first | done | with_reducible rfl)
  change wpAnyH _ _ _ _ _ 6 _ (Act.put _ (some 11) _) _
  simp only [Act.put, List.setIfInBounds_toArray, List.set_cons_zero, List.set_cons_succ]
  refine wpAnyH_take (fuel := 5) (i := 6) (v := ?_) rfl (by kernel_rfl) (by kernel_rfl) (by kernel_rfl) (fun _ _ _ h => h) (Or.inl ⟨by rfl, ?_⟩) (by assumption) ?_
  rotate_left
  · (intro w hSw; (try dsimp only at hSw); go_simp; first | done | with_reducible rfl)
  change wpAnyH _ _ _ _ _ 5 _ (Act.put _ (some 12) _) _
  simp only [Act.put, List.setIfInBounds_toArray, List.set_cons_zero, List.set_cons_succ]
  refine wpAnyH_take (fuel := 4) (i := 8) (v := ?_) rfl (by kernel_rfl) (by kernel_rfl) (by kernel_rfl) (fun _ _ _ h => h) (Or.inl ⟨by rfl, ?_⟩) (by assumption) ?_
  rotate_left
  · (intro w hSw; (try dsimp only at hSw); go_simp; first | done | with_reducible rfl)
  change wpAnyH _ _ _ _ _ 4 _ (Act.put _ (some 14) _) _
  simp only [Act.put, List.setIfInBounds_toArray, List.set_cons_zero, List.set_cons_succ]
  refine wpAnyH_take (fuel := 3) (i := 9) (v := ?_) rfl (by kernel_rfl) (by kernel_rfl) (by kernel_rfl) (fun _ _ _ h => h) (Or.inl ⟨by rfl, ?_⟩) (by assumption) ?_
  rotate_left
  · (intro w hSw; (try dsimp only at hSw); go_simp; first | done | with_reducible rfl)
  change wpAnyH _ _ _ _ _ 3 _ (Act.put _ (some 15) _) _
  simp only [Act.put, List.setIfInBounds_toArray, List.set_cons_zero, List.set_cons_succ]
  refine allH (fuel := 2) (i := 7) (by kernel_rfl) rfl (by rfl) ?_
  intro K hK
  refine wp_callF (f := 9) Tryd.func9 (by kernel_rfl) rfl rfl (vs := #[.agg #[.int .i64 p.fore.k, .int .u8 p.fore.i, .int .u8 p.fore.r, .int .u8 p.fore.g, .int .u8 p.fore.b, .int .i64 p.back.k, .int .u8 p.back.i, .int .u8 p.back.r, .int .u8 p.back.g, .int .u8 p.back.b, .int .u8 p.fl]]) (by simp only [List.map_toArray, List.map_cons, List.map_nil]; rfl) ?_
  refine (SpacerK p _).mono ?_
  rintro e w3 ⟨rfl, hn⟩
  refine ⟨_, rfl, hK _ _ ((HB.out.fr hn (fun h => h)).eleven) ?_⟩
  clear hK K hHeld
  have hHeld := (HB.out.fr hn (fun h => h)).eleven
  have HB := Lib.hid (HB.out.fr hn (fun h => h))
  have HN := Lib.hid (HN.out.trans hn)
  clear hn
  change wpAnyH _ _ _ _ _ 2 _ (Act.put _ (some 13) _) _
  simp only [Act.put, List.setIfInBounds_toArray, List.set_cons_zero, List.set_cons_succ]
  refine wpAnyH_take (fuel := 1) (i := 10) (v := ?_) rfl (by kernel_rfl) (by kernel_rfl) (by kernel_rfl) (fun _ _ _ h => h) (Or.inl ⟨by rfl, ?_⟩) (by assumption) ?_
  rotate_left
  · (intro w hSw; (try dsimp only at hSw); go_simp; first | done | with_reducible rfl)
  change wpAnyH _ _ _ _ _ 1 _ (Act.put _ (some 16) _) _
  simp only [Act.put, List.setIfInBounds_toArray, List.set_cons_zero, List.set_cons_succ]
  refine wpAnyH_take (fuel := 0) (i := 11) (v := ?_) rfl (by kernel_rfl) (by kernel_rfl) (by kernel_rfl) (fun _ _ _ h => h) (Or.inl ⟨by rfl, ?_⟩) (by assumption) ?_
  rotate_left
  · (intro w hSw; (try dsimp only at hSw); go_simp; first | done | with_reducible rfl)
  change wpAnyH _ _ _ _ _ 0 _ (Act.put _ (some 17) _) _
  simp only [Act.put, List.setIfInBounds_toArray, List.set_cons_zero, List.set_cons_succ]
  refine wpAnyH_done (by kernel_rfl) ?_ _
  clear hHeld h1 h2 gd
  go_wp2_with fail
  refine (C1 _).mono ?_
  rintro e w4 ⟨rfl, hn⟩
  have HB := Lib.hid (HB.out.fr hn (fun h => h))
  have HN := Lib.hid (HN.out.trans hn)
  clear hn
  obtain ⟨d0, d1, d2, d3, d4, d5, d6, d7, d8, d9, d10⟩ := HB.out.eleven
  go_wp2_with fail
  refine (C2 _).mono ?_
  rintro e w5 ⟨rfl, hn⟩
  clear d0 d1 d2 d3 d4 d5 d6 d7 d8 d9 d10
  have HB := Lib.hid (HB.out.fr hn (fun h => h))
  have HN := Lib.hid (HN.out.trans hn)
  clear hn
  obtain ⟨d0, d1, d2, d3, d4, d5, d6, d7, d8, d9, d10⟩ := HB.out.eleven
  go_wp2_with fail
  refine (lof_yes r p 2 w5.heap.size _ _ HI.out HP.out _ (rdof2 r p HQ.out w5) (by omega) (HT.out.new (HN.out.trans (New.alloc _)))).mono ?_
  rintro e w8 ⟨rfl, hn⟩
  have HN := Lib.hid (HN.out.trans ((New.alloc _).trans hn))
  clear hn d0 d1 d2 d3 d4 d5 d6 d7 d8 d9 d10
  go_wp2_with fail
  refine (known_any _ (HT.out.new HN.out)).mono ?_
  rintro e w9 ⟨rfl, hn⟩
  have HN := Lib.hid (HN.out.trans hn)
  clear hn
  go_wp2_with fail
  go_ret
  exact ⟨rfl, HN.out.new_below⟩

theorem cellOf_walk (r : Int) (p : Pn) (w : World) (hT : Tab w) : OfWalk r p w := by
  rcases ofI_cases r with q | q | q | q
  · exact cellOf_m r p q w hT
  · exact cellOf_z r p q w hT
  · cases hp : validB p with
    | false => exact cellOf_n1 r p q hp w hT
    | true => exact cellOf_y1 r p q hp w hT
  · cases hp : validB p with
    | false => exact cellOf_n2 r p q hp w hT
    | true => exact cellOf_y2 r p q hp w hT

theorem cellOf_for (r : Int) (p : Pn) (_w0 : (Lit.int .i32 r).wf = true) (_w1 : p.Ok) (w : World) (hT : Tab w) : OfWalk r p w := cellOf_walk r p w hT

end Go.Proofs.YtciifgajnblenaaDoor
