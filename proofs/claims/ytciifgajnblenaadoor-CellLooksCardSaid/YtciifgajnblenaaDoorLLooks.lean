/-
  CellLooks.
-/
import Derived.Test.YtciifgajnblenaaDoorLKnown
import Derived.Test.YtciifgajnblenaaDoorCValid
import Derived.Test.YtciifgajnblenaaDoorCText
namespace Go.Proofs.YtciifgajnblenaaDoor
open Go.RowKit

set_option maxRecDepth 20000 in
set_option maxHeartbeats 6400000 in
theorem cellLooks_walk (c : Ce) (w : World) (hT : Tab w) : Calls Tryd.prog 4 #[c.v] w fun e w' => e = .returned (.bool true) ∧ Below w.heap.size w w' := by
  obtain ⟨b1, h1⟩ : ∃ b, cellB c = b := ⟨_, rfl⟩
  obtain ⟨b2, h2⟩ : ∃ b, (c.r != 0) = b := ⟨_, rfl⟩
  obtain ⟨b3, h3⟩ : ∃ b, decide (c = blankC zeroP) = b := ⟨_, rfl⟩
  obtain ⟨s, h4⟩ : ∃ s, runesBytes (textC c) = s := ⟨_, rfl⟩
  have C1 := fun w hT => CValidK c b1 h1 w hT
  have C2 : ∀ w, Calls Tryd.prog 15 #[c.v] w fun e w' => e = .returned (.bool b1) ∧ New w w' := fun w => h1 ▸ RValidC_any c w
  have C3 := fun w => WrittenK c b2 h2 w
  have C4 := fun w => EmptyK c b3 h3 w
  have C5 : ∀ w, Calls Tryd.prog 18 #[c.v] w fun e w' => e = .returned (.string s) ∧ New w w' := fun w => h4 ▸ CText_any c w
  have C6 : ∀ w, Calls Tryd.prog 19 #[c.v] w fun e w' => e = .returned (.string s) ∧ New w w' := fun w => h4 ▸ RText_any c w
  have heq : ∀ w, (Op.equalIn 10000 30 (.agg c.cs) (.agg (Ce.cs (blankC zeroP)))).run Tryd.prog w = .ok b3 w := eq_cells c (blankC zeroP) b3 h3
  have gd := guardC
  have HT := Lib.hid hT
  clear h1 h3 h4 hT
  go_enter Tryd.func4, Tryd.ntmps4
  go_wp2_with fail
  have HN : Hid (New w (w.alloc (.cells c.cs 30))) := Lib.hid (New.alloc _)
  have HB := Lib.hid (Blk.new w 30 c.cs)
  generalize w.alloc (.cells c.cs 30) = W at *
  obtain ⟨g, hg⟩ : ∃ g, w.heap.size = g := ⟨_, rfl⟩
  rw [hg] at HB ⊢
  clear hg
  refine wp_region_held_drew (S := (fun w' => w'.cell? ⟨g, 0, none⟩ = some (.int .i32 c.r) ∧ w'.cell? ⟨g, 1, none⟩ = some (.int .i32 c.m0) ∧ w'.cell? ⟨g, 2, none⟩ = some (.int .i32 c.m1) ∧ w'.cell? ⟨g, 3, none⟩ = some (.int .i32 c.m2) ∧ w'.cell? ⟨g, 4, none⟩ = some (.int .i64 c.wd) ∧ w'.cell? ⟨g, 5, none⟩ = some (.int .i64 c.p.fore.k) ∧ w'.cell? ⟨g, 6, none⟩ = some (.int .u8 c.p.fore.i) ∧ w'.cell? ⟨g, 7, none⟩ = some (.int .u8 c.p.fore.r) ∧ w'.cell? ⟨g, 8, none⟩ = some (.int .u8 c.p.fore.g) ∧ w'.cell? ⟨g, 9, none⟩ = some (.int .u8 c.p.fore.b) ∧ w'.cell? ⟨g, 10, none⟩ = some (.int .i64 c.p.back.k) ∧ w'.cell? ⟨g, 11, none⟩ = some (.int .u8 c.p.back.i) ∧ w'.cell? ⟨g, 12, none⟩ = some (.int .u8 c.p.back.r) ∧ w'.cell? ⟨g, 13, none⟩ = some (.int .u8 c.p.back.g) ∧ w'.cell? ⟨g, 14, none⟩ = some (.int .u8 c.p.back.b) ∧ w'.cell? ⟨g, 15, none⟩ = some (.int .u8 c.p.fl))) (by kernel_rfl) ?_ (fun hHeld => ?_)
  · exact HB.out.sixteen
  refine wpAnyH_take (fuel := 31) (i := 0) (v := ?_) rfl (by kernel_rfl) (by kernel_rfl) (by kernel_rfl) (fun _ _ _ h => h) (Or.inl ⟨by rfl, ?_⟩) (by assumption) ?_
  rotate_left
  · (intro w hSw; (try dsimp only at hSw); go_simp; first | done | with_reducible rfl)
  change wpAnyH _ _ _ _ _ 31 _ (Act.put _ (some 3) _) _
  simp only [Act.put, List.setIfInBounds_toArray, List.set_cons_zero, List.set_cons_succ]
  refine wpAnyH_take (fuel := 30) (i := 2) (v := ?_) rfl (by kernel_rfl) (by kernel_rfl) (by kernel_rfl) (fun _ _ _ h => h) (Or.inl ⟨by rfl, ?_⟩) (by assumption) ?_
  rotate_left
  · (intro w hSw; (try dsimp only at hSw); go_simp; first | done | with_reducible rfl)
  change wpAnyH _ _ _ _ _ 30 _ (Act.put _ (some 5) _) _
  simp only [Act.put, List.setIfInBounds_toArray, List.set_cons_zero, List.set_cons_succ]
  refine allH (fuel := 29) (i := 1) (by kernel_rfl) rfl (by rfl) ?_
  intro K hK
  refine wp_callF (f := 14) Tryd.func14 (by kernel_rfl) rfl rfl (vs := #[.agg c.cs]) (by simp only [List.map_toArray, List.map_cons, List.map_nil]; rfl) ?_
  refine (C1 _ (HT.out.new HN.out).drew).mono ?_
  rintro e w1 ⟨rfl, hn⟩
  refine ⟨_, rfl, hK _ _ ((HB.out.drew.fr hn (fun h => h)).sixteen) ?_⟩
  clear hK K hHeld
  have hHeld := (HB.out.drew.fr hn (fun h => h)).sixteen
  have HB := Lib.hid (HB.out.drew.fr hn (fun h => h))
  have HN := Lib.hid (HN.out.trans hn.of_drew)
  clear hn
  change wpAnyH _ _ _ _ _ 29 _ (Act.put _ (some 4) _) _
  simp only [Act.put, List.setIfInBounds_toArray, List.set_cons_zero, List.set_cons_succ]
  as_aux_lemma =>
    refine allH (fuel := 28) (i := 3) (by kernel_rfl) rfl (by rfl) ?_
    intro K hK
    refine wp_callF (f := 15) Tryd.func15 (by kernel_rfl) rfl rfl (vs := #[.agg c.cs]) (by simp only [List.map_toArray, List.map_cons, List.map_nil]; rfl) ?_
    refine (C2 _).mono ?_
    rintro e w2 ⟨rfl, hn⟩
    refine ⟨_, rfl, hK _ _ ((HB.out.fr hn (fun h => h)).sixteen) ?_⟩
    clear hK K hHeld
    have hHeld := (HB.out.fr hn (fun h => h)).sixteen
    have HB := Lib.hid (HB.out.fr hn (fun h => h))
    have HN := Lib.hid (HN.out.trans hn)
    clear hn
    change wpAnyH _ _ _ _ _ 28 _ (Act.put _ (some 6) _) _
    simp only [Act.put, List.setIfInBounds_toArray, List.set_cons_zero, List.set_cons_succ]
    as_aux_lemma =>
      refine wpAnyH_take (fuel := 27) (i := 4) (v := ?_) rfl (by kernel_rfl) (by kernel_rfl) (by kernel_rfl) (fun _ _ _ h => h) (Or.inl ⟨by rfl, ?_⟩) (by assumption) ?_
      rotate_left
      · (intro w hSw; (try dsimp only at hSw); go_simp; first | done | with_reducible rfl)
      change wpAnyH _ _ _ _ _ 27 _ (Act.put _ (some 7) _) _
      simp only [Act.put, List.setIfInBounds_toArray, List.set_cons_zero, List.set_cons_succ]
      refine wpAnyH_take (fuel := 26) (i := 5) (v := ?_) rfl (by kernel_rfl) (by kernel_rfl) (by kernel_rfl) (fun _ _ _ h => h) (Or.inl ⟨by rfl, ?_⟩) (by assumption) ?_
      rotate_left
      · (intro w hSw; (try dsimp only at hSw); go_simp; first | done | with_reducible rfl)
      change wpAnyH _ _ _ _ _ 26 _ (Act.put _ (some 8) _) _
      simp only [Act.put, List.setIfInBounds_toArray, List.set_cons_zero, List.set_cons_succ]
      refine wpAnyH_take (fuel := 25) (i := 6) (v := ?_) rfl (by kernel_rfl) (by kernel_rfl) (by kernel_rfl) (fun _ _ _ h => h) (Or.inl ⟨by rfl, ?_⟩) (by assumption) ?_
      rotate_left
      · (intro w hSw; (try dsimp only at hSw); go_simp; first | done | with_reducible rfl)
      change wpAnyH _ _ _ _ _ 25 _ (Act.put _ (some 9) _) _
      simp only [Act.put, List.setIfInBounds_toArray, List.set_cons_zero, List.set_cons_succ]
      refine wpAnyH_take (fuel := 24) (i := 8) (v := ?_) rfl (by kernel_rfl) (by kernel_rfl) (by kernel_rfl) (fun _ _ _ h => h) (Or.inl ⟨by rfl, ?_⟩) (by assumption) ?_
      rotate_left
      · (intro w hSw; (try dsimp only at hSw); go_simp; first | done | with_reducible rfl)
      change wpAnyH _ _ _ _ _ 24 _ (Act.put _ (some 11) _) _
      simp only [Act.put, List.setIfInBounds_toArray, List.set_cons_zero, List.set_cons_succ]
      refine wpAnyH_take (fuel := 23) (i := 9) (v := ?_) rfl (by kernel_rfl) (by kernel_rfl) (by kernel_rfl) (fun _ _ _ h => h) (Or.inl ⟨by rfl, ?_⟩) (by assumption) ?_
      rotate_left
      · (intro w hSw; (try dsimp only at hSw); go_simp; first | done | with_reducible rfl)
      change wpAnyH _ _ _ _ _ 23 _ (Act.put _ (some 12) _) _
      simp only [Act.put, List.setIfInBounds_toArray, List.set_cons_zero, List.set_cons_succ]
      refine wpAnyH_take (fuel := 22) (i := 10) (v := ?_) rfl (by kernel_rfl) (by kernel_rfl) (by kernel_rfl) (fun _ _ _ h => h) (Or.inl ⟨by rfl, ?_⟩) (by assumption) ?_
      rotate_left
      · (intro w hSw; (try dsimp only at hSw); go_simp; first | done | with_reducible rfl)
      change wpAnyH _ _ _ _ _ 22 _ (Act.put _ (some 13) _) _
      simp only [Act.put, List.setIfInBounds_toArray, List.set_cons_zero, List.set_cons_succ]
      refine allH (fuel := 21) (i := 7) (by kernel_rfl) rfl (by rfl) ?_
      intro K hK
      refine wp_callF (f := 16) Tryd.func16 (by kernel_rfl) rfl rfl (vs := #[.agg c.cs]) (by simp only [List.map_toArray, List.map_cons, List.map_nil]; rfl) ?_
      refine (C3 _).mono ?_
      rintro e w3 ⟨rfl, hn⟩
      refine ⟨_, rfl, hK _ _ ((HB.out.fr hn (fun h => h)).sixteen) ?_⟩
      clear hK K hHeld
      have hHeld := (HB.out.fr hn (fun h => h)).sixteen
      have HB := Lib.hid (HB.out.fr hn (fun h => h))
      have HN := Lib.hid (HN.out.trans hn)
      clear hn
      change wpAnyH _ _ _ _ _ 21 _ (Act.put _ (some 10) _) _
      simp only [Act.put, List.setIfInBounds_toArray, List.set_cons_zero, List.set_cons_succ]
      as_aux_lemma =>
        refine wpAnyH_take (fuel := 20) (i := 11) (v := ?_) rfl (by kernel_rfl) (by kernel_rfl) (by kernel_rfl) (fun _ _ _ h => h) (Or.inl ⟨by rfl, ?_⟩) (by assumption) ?_
        rotate_left
        · (intro w hSw; (try dsimp only at hSw); go_simp; first | done | with_reducible rfl)
        change wpAnyH _ _ _ _ _ 20 _ (Act.put _ (some 14) _) _
        simp only [Act.put, List.setIfInBounds_toArray, List.set_cons_zero, List.set_cons_succ]
        refine wpAnyH_take (fuel := 19) (i := 12) (v := ?_) rfl (by kernel_rfl) (by kernel_rfl) (by kernel_rfl) (fun _ _ _ h => h) (Or.inl ⟨by rfl, ?_⟩) (by assumption) ?_
        rotate_left
        · (intro w hSw; (try dsimp only at hSw); go_simp; first | done | with_reducible rfl)
        change wpAnyH _ _ _ _ _ 19 _ (Act.put _ (some 15) _) _
        simp only [Act.put, List.setIfInBounds_toArray, List.set_cons_zero, List.set_cons_succ]
        refine wpAnyH_take (fuel := 18) (i := 13) (v := ?_) rfl (by kernel_rfl) (by kernel_rfl) (by kernel_rfl) (fun _ _ _ h => h) (Or.inl ⟨by rfl, ?_⟩) (by assumption) ?_
        rotate_left
        · (intro w hSw; (try dsimp only at hSw); go_simp; first | done | with_reducible rfl)
        change wpAnyH _ _ _ _ _ 18 _ (Act.put _ (some 16) _) _
        simp only [Act.put, List.setIfInBounds_toArray, List.set_cons_zero, List.set_cons_succ]
        refine wpAnyH_take (fuel := 17) (i := 14) (v := ?_) rfl (by kernel_rfl) (by kernel_rfl) (by kernel_rfl) (fun _ _ _ h => h) (Or.inl ⟨by rfl, ?_⟩) (by assumption) ?_
        rotate_left
        · (intro w hSw; (try dsimp only at hSw); go_simp; first | done | with_reducible rfl)
        change wpAnyH _ _ _ _ _ 17 _ (Act.put _ (some 17) _) _
        simp only [Act.put, List.setIfInBounds_toArray, List.set_cons_zero, List.set_cons_succ]
        refine wpAnyH_take (fuel := 16) (i := 16) (v := ?_) rfl (by kernel_rfl) (by kernel_rfl) (by kernel_rfl) (fun _ _ _ h => h) (Or.inl ⟨by rfl, ?_⟩) (by assumption) ?_
        rotate_left
        · (intro w hSw; (try dsimp only at hSw); go_simp; first | done | with_reducible rfl)
        change wpAnyH _ _ _ _ _ 16 _ (Act.put _ (some 19) _) _
        simp only [Act.put, List.setIfInBounds_toArray, List.set_cons_zero, List.set_cons_succ]
        refine wpAnyH_take (fuel := 15) (i := 17) (v := ?_) rfl (by kernel_rfl) (by kernel_rfl) (by kernel_rfl) (fun _ _ _ h => h) (Or.inl ⟨by rfl, ?_⟩) (by assumption) ?_
        rotate_left
        · (intro w hSw; (try dsimp only at hSw); go_simp; first | done | with_reducible rfl)
        change wpAnyH _ _ _ _ _ 15 _ (Act.put _ (some 20) _) _
        simp only [Act.put, List.setIfInBounds_toArray, List.set_cons_zero, List.set_cons_succ]
        refine wpAnyH_take (fuel := 14) (i := 18) (v := ?_) rfl (by kernel_rfl) (by kernel_rfl) (by kernel_rfl) (fun _ _ _ h => h) (Or.inl ⟨by rfl, ?_⟩) (by assumption) ?_
        rotate_left
        · (intro w hSw; (try dsimp only at hSw); go_simp; first | done | with_reducible rfl)
        change wpAnyH _ _ _ _ _ 14 _ (Act.put _ (some 21) _) _
        simp only [Act.put, List.setIfInBounds_toArray, List.set_cons_zero, List.set_cons_succ]
        refine allH (fuel := 13) (i := 15) (by kernel_rfl) rfl (by rfl) ?_
        intro K hK
        refine wp_callF (f := 17) Tryd.func17 (by kernel_rfl) rfl rfl (vs := #[.agg c.cs]) (by simp only [List.map_toArray, List.map_cons, List.map_nil]; rfl) ?_
        refine (C4 _).mono ?_
        rintro e w4 ⟨rfl, hn⟩
        refine ⟨_, rfl, hK _ _ ((HB.out.fr hn (fun h => h)).sixteen) ?_⟩
        clear hK K hHeld
        have hHeld := (HB.out.fr hn (fun h => h)).sixteen
        have HB := Lib.hid (HB.out.fr hn (fun h => h))
        have HN := Lib.hid (HN.out.trans hn)
        clear hn
        change wpAnyH _ _ _ _ _ 13 _ (Act.put _ (some 18) _) _
        simp only [Act.put, List.setIfInBounds_toArray, List.set_cons_zero, List.set_cons_succ]
        as_aux_lemma =>
          refine wpAnyH_take (fuel := 12) (i := 19) (v := ?_) rfl (by kernel_rfl) (by kernel_rfl) (by kernel_rfl) (fun _ _ _ h => h) (Or.inl ⟨by rfl, ?_⟩) (by assumption) ?_
          rotate_left
          · (intro w hSw; (try dsimp only at hSw); go_simp; first | done | with_reducible rfl)
          change wpAnyH _ _ _ _ _ 12 _ (Act.put _ (some 22) _) _
          simp only [Act.put, List.setIfInBounds_toArray, List.set_cons_zero, List.set_cons_succ]
          refine wpAnyH_take (fuel := 11) (i := 20) (v := ?_) rfl (by kernel_rfl) (by kernel_rfl) (by kernel_rfl) (fun _ _ _ h => h) (Or.inl ⟨by rfl, ?_⟩) (by assumption) ?_
          rotate_left
          · (intro w hSw; (try dsimp only at hSw); go_simp; first | done | with_reducible rfl)
          change wpAnyH _ _ _ _ _ 11 _ (Act.put _ (some 23) _) _
          simp only [Act.put, List.setIfInBounds_toArray, List.set_cons_zero, List.set_cons_succ]
          refine wpAnyH_take (fuel := 10) (i := 21) (v := ?_) rfl (by kernel_rfl) (by kernel_rfl) (by kernel_rfl) (fun _ _ _ h => h) (Or.inl ⟨by rfl, ?_⟩) (by assumption) ?_
          rotate_left
          · (intro w hSw; (try dsimp only at hSw); go_simp; first | done | with_reducible rfl)
          change wpAnyH _ _ _ _ _ 10 _ (Act.put _ (some 24) _) _
          simp only [Act.put, List.setIfInBounds_toArray, List.set_cons_zero, List.set_cons_succ]
          refine wpAnyH_take (fuel := 9) (i := 22) (v := ?_) rfl (by kernel_rfl) (by kernel_rfl) (by kernel_rfl) (fun _ _ _ h => h) (Or.inl ⟨by rfl, ?_⟩) (by assumption) ?_
          rotate_left
          · (intro w hSw; (try dsimp only at hSw); go_simp; first | done | with_reducible rfl)
          change wpAnyH _ _ _ _ _ 9 _ (Act.put _ (some 25) _) _
          simp only [Act.put, List.setIfInBounds_toArray, List.set_cons_zero, List.set_cons_succ]
          refine wpAnyH_take (fuel := 8) (i := 24) (v := ?_) rfl (by kernel_rfl) (by kernel_rfl) (by kernel_rfl) (fun _ _ _ h => h) (Or.inl ⟨by rfl, ?_⟩) (by assumption) ?_
          rotate_left
          · (intro w hSw; (try dsimp only at hSw); go_simp; first | done | with_reducible rfl)
          change wpAnyH _ _ _ _ _ 8 _ (Act.put _ (some 27) _) _
          simp only [Act.put, List.setIfInBounds_toArray, List.set_cons_zero, List.set_cons_succ]
          refine allH (fuel := 7) (i := 23) (by kernel_rfl) rfl (by rfl) ?_
          intro K hK
          refine wp_callF (f := 18) Tryd.func18 (by kernel_rfl) rfl rfl (vs := #[.agg c.cs]) (by simp only [List.map_toArray, List.map_cons, List.map_nil]; rfl) ?_
          refine (C5 _).mono ?_
          rintro e w5 ⟨rfl, hn⟩
          refine ⟨_, rfl, hK _ _ ((HB.out.fr hn (fun h => h)).sixteen) ?_⟩
          clear hK K hHeld
          have hHeld := (HB.out.fr hn (fun h => h)).sixteen
          have HB := Lib.hid (HB.out.fr hn (fun h => h))
          have HN := Lib.hid (HN.out.trans hn)
          clear hn
          change wpAnyH _ _ _ _ _ 7 _ (Act.put _ (some 26) _) _
          simp only [Act.put, List.setIfInBounds_toArray, List.set_cons_zero, List.set_cons_succ]
          as_aux_lemma =>
            refine allH (fuel := 6) (i := 25) (by kernel_rfl) rfl (by rfl) ?_
            intro K hK
            refine wp_callF (f := 19) Tryd.func19 (by kernel_rfl) rfl rfl (vs := #[.agg c.cs]) (by simp only [List.map_toArray, List.map_cons, List.map_nil]; rfl) ?_
            refine (C6 _).mono ?_
            rintro e w6 ⟨rfl, hn⟩
            refine ⟨_, rfl, hK _ _ ((HB.out.fr hn (fun h => h)).sixteen) ?_⟩
            clear hK K hHeld
            have hHeld := (HB.out.fr hn (fun h => h)).sixteen
            have HB := Lib.hid (HB.out.fr hn (fun h => h))
            have HN := Lib.hid (HN.out.trans hn)
            clear hn
            change wpAnyH _ _ _ _ _ 6 _ (Act.put _ (some 28) _) _
            simp only [Act.put, List.setIfInBounds_toArray, List.set_cons_zero, List.set_cons_succ]
            as_aux_lemma =>
              refine wpAnyH_take (fuel := 5) (i := 26) (v := ?_) rfl (by kernel_rfl) (by kernel_rfl) (by kernel_rfl) (fun _ _ _ h => h) (Or.inl ⟨by rfl, ?_⟩) (by assumption) ?_
              rotate_left
              · (intro w hSw; (try dsimp only at hSw); go_simp; first | done | with_reducible rfl)
              change wpAnyH _ _ _ _ _ 5 _ (Act.put _ (some 29) _) _
              simp only [Act.put, List.setIfInBounds_toArray, List.set_cons_zero, List.set_cons_succ]
              refine wpAnyH_take (fuel := 4) (i := 27) (v := ?_) rfl (by kernel_rfl) (by kernel_rfl) (by kernel_rfl) (fun _ _ _ h => h) (Or.inl ⟨by rfl, ?_⟩) (by assumption) ?_
              rotate_left
              · (intro w hSw; (try dsimp only at hSw); go_simp; first | done | with_reducible rfl)
              change wpAnyH _ _ _ _ _ 4 _ (Act.put _ (some 30) _) _
              simp only [Act.put, List.setIfInBounds_toArray, List.set_cons_zero, List.set_cons_succ]
              refine wpAnyH_take (fuel := 3) (i := 28) (v := ?_) rfl (by kernel_rfl) (by kernel_rfl) (by kernel_rfl) (fun _ _ _ h => h) (Or.inl ⟨by rfl, ?_⟩) (by assumption) ?_
              rotate_left
              · (intro w hSw; (try dsimp only at hSw); go_simp; first | done | with_reducible rfl)
              change wpAnyH _ _ _ _ _ 3 _ (Act.put _ (some 31) _) _
              simp only [Act.put, List.setIfInBounds_toArray, List.set_cons_zero, List.set_cons_succ]
              refine allH (fuel := 2) (i := 29) (by kernel_rfl) rfl (by rfl) ?_
              intro K hK
              refine wp_callF (f := 13) Tryd.func13 (by kernel_rfl) rfl rfl (vs := #[]) (by simp only [List.map_toArray, List.map_nil]) ?_
              refine (known_any _ (HT.out.new HN.out)).mono ?_
              rintro e w7 ⟨rfl, hn⟩
              refine ⟨_, rfl, hK _ _ ((HB.out.fr hn (fun h => h)).sixteen) ?_⟩
              clear hK K hHeld
              have hHeld := (HB.out.fr hn (fun h => h)).sixteen
              have HB := Lib.hid (HB.out.fr hn (fun h => h))
              have HN := Lib.hid (HN.out.trans hn)
              clear hn
              change wpAnyH _ _ _ _ _ 2 _ (Act.put _ (some 32) _) _
              simp only [Act.put, List.setIfInBounds_toArray, List.set_cons_zero, List.set_cons_succ]
              as_aux_lemma =>
                refine wpAnyH_take (fuel := 1) (i := 30) (v := ?_) rfl (by kernel_rfl) (by kernel_rfl) (by kernel_rfl) (fun _ _ _ h => h) (Or.inl ⟨by rfl, ?_⟩) (by assumption) ?_
                rotate_left
                · (intro w hSw; (try dsimp only at hSw); go_simp; first | done | with_reducible rfl)
                change wpAnyH _ _ _ _ _ 1 _ (Act.put _ (some 33) _) _
                simp only [Act.put, List.setIfInBounds_toArray, List.set_cons_zero, List.set_cons_succ]
                refine wpAnyH_take (fuel := 0) (i := 31) (v := ?_) rfl (by kernel_rfl) (by kernel_rfl) (by kernel_rfl) (fun _ _ _ h => h) (Or.inl ⟨by rfl, ?_⟩) (by assumption) ?_
                rotate_left
                · (intro w hSw; (try dsimp only at hSw); go_simp; first | done | with_reducible rfl)
                change wpAnyH _ _ _ _ _ 0 _ (Act.put _ (some 2) _) _
                simp only [Act.put, List.setIfInBounds_toArray, List.set_cons_zero, List.set_cons_succ]
                refine wpAnyH_done (by kernel_rfl) ?_ _
                clear hHeld
                go_wp2_with fail
                go_ret
                exact ⟨rfl, HN.out.new_below⟩

end Go.Proofs.YtciifgajnblenaaDoor
