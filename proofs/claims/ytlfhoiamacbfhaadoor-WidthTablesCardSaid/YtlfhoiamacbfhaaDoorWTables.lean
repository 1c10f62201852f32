/-
  Both tables are the chapter's; what was given out may be changed.
-/
import Derived.Test.YtlfhoiamacbfhaaDoorTables
import Derived.BigRegion
namespace Go.Proofs.YtlfhoiamacbfhaaDoor
open Go.RowKit

theorem fr_stores (W : World) (b c i j : Nat) (x y : Value) : Fr (fun k => k = b ∨ k = c) W ((W.setCell ⟨b, i, none⟩ x).setCell ⟨c, j, none⟩ y) :=
  Fr.setCell (Fr.setCell (Fr.refl _ _) (.inl (.inl rfl)) _) (.inl (.inr rfl)) _
theorem New.cut2 {a b c : World} {g h : Nat} (hn : New a b) (k : Fr (fun k => k = g ∨ k = h) b c) (hg : a.heap.size ≤ g) (hh : a.heap.size ≤ h) : New a c :=
  Fr.trans hn k (fun i hi e => by rcases e with e | e <;> omega)

set_option maxHeartbeats 4000000 in
theorem tables_walk0 (a : Int) (w : World) (hT : Tab w) :
    Calls Tryd.prog 5 #[.int .i32 a] w fun e w' => e = .returned (.bool true) ∧ New w w' := by
  have H := Lib.hid hT
  clear hT
  go_enter Tryd.func5, Tryd.ntmps5
  go_wp2
  go_loopw [5] (fun i wr => ∃ k : Nat, k ≤ 2 ∧ i = .int .i64 k ∧ New w wr) (fun i _ => 2 - (intOf i).toNat)
  case atStart => exact ⟨0, by omega, rfl, Fr.refl _ _⟩
  case round =>
    obtain ⟨k, hk, rfl, hnew⟩ := hrel
    have HW := Lib.hid hnew
    clear hnew
    by_cases hlt : k < 2
    · have j1 : (k : Int) < 2 := by omega
      go_wp2_with fail
      refine (Marks_any _ (H.out.new HW.out)).mono ?_
      rintro e w1 ⟨b1, rfl, hb1, hg1, h1⟩
      have B1 := Lib.hid hb1
      have N1 := Lib.hid hg1
      have G1 := Lib.hid (HW.out.trans h1)
      clear h1 hb1 hg1
      go_wp2_with fail
      refine (Wide_any _ (H.out.new G1.out)).mono ?_
      rintro e w2 ⟨b2, rfl, hb2, hg2, h2⟩
      have B2 := Lib.hid hb2
      have N2 := Lib.hid hg2
      have G2 := Lib.hid (G1.out.trans h2)
      have B12 := Lib.hid (B1.out.fr h2 (fun h => h))
      clear h2 hb2 hg2
      go_wp2_with fail
      refine (RMarks_any _).mono ?_
      rintro e w3 ⟨b3, rfl, hb3, -, h3⟩
      have B3 := Lib.hid hb3
      have G3 := Lib.hid (G2.out.trans h3)
      have B13 := Lib.hid (B12.out.fr h3 (fun h => h))
      have B23 := Lib.hid (B2.out.fr h3 (fun h => h))
      clear h3 hb3
      go_wp2_with fail
      refine (RSame_any marksL 18 rfl (by omega) b1 b3 _ _ _ (Rg.of_blk B13.out) (Rg.of_blk B3.out)).mono ?_
      rintro e w4 ⟨rfl, h4⟩
      have G4 := Lib.hid (G3.out.trans h4)
      have B14 := Lib.hid (B13.out.fr h4 (fun h => h))
      have B24 := Lib.hid (B23.out.fr h4 (fun h => h))
      clear h4
      go_wp2_with fail
      refine (RWide_any _).mono ?_
      rintro e w5 ⟨b5, rfl, hb5, -, h5⟩
      have B5 := Lib.hid hb5
      have G5 := Lib.hid (G4.out.trans h5)
      have B15 := Lib.hid (B14.out.fr h5 (fun h => h))
      have B25 := Lib.hid (B24.out.fr h5 (fun h => h))
      clear h5 hb5
      go_wp2_with fail
      refine (RSame_any wideL 19 rfl (by omega) b2 b5 _ _ _ (Rg.of_blk B25.out) (Rg.of_blk B5.out)).mono ?_
      rintro e w6 ⟨rfl, h6⟩
      have G6 := Lib.hid (G5.out.trans h6)
      have B16 := B15.out.fr h6 (fun h => h)
      have B26 := B25.out.fr h6 (fun h => h)
      have c1 : w6.cell? ⟨b1, 0, none⟩ = some (.int .i32 768) := B16.cell 0
      have c2 : w6.cell? ⟨b2, 1, none⟩ = some (.int .i32 4447) := B26.cell 1
      have f1 := B16.frozen 0
      have f2 := B26.frozen 1
      have M1 : Hid (w.heap.size ≤ b1) := Lib.hid (Nat.le_trans HW.out.size N1.out)
      have M2 : Hid (w.heap.size ≤ b2) := Lib.hid (Nat.le_trans G1.out.size N2.out)
      clear h6 B16 B26
      go_wp2_with fail
      go_region
      go_wp2
      go_roundw
      case rel => exact ⟨k + 1, by omega, by go_num, New.cut2 G6.out (Fr.drew (fr_stores w6 b1 b2 0 1 _ _)) M1.out M2.out⟩
      case measure => simp [intOf]; omega
    · have j1 : ¬ (k : Int) < 2 := by omega
      go_wp2_with fail
      have O1 : ofI 768 = 0 := by decide
      have O2 : ofI 4447 = 2 := by decide
      refine (Of_any _ _ (H.out.new HW.out)).mono ?_
      rintro e w1 ⟨rfl, h1⟩
      have G1 := Lib.hid (HW.out.trans h1)
      clear h1
      go_wp2_with fail
      refine (Of_any _ _ (H.out.new G1.out)).mono ?_
      rintro e w2 ⟨rfl, h2⟩
      have G2 := Lib.hid (G1.out.trans h2)
      clear h2
      go_wp2_with fail
      refine (known_any _ (H.out.new G2.out)).mono ?_
      rintro e w7 ⟨rfl, h7⟩
      have G7 := Lib.hid (G2.out.trans h7)
      clear h7
      go_wp2_with fail
      go_ret
      exact ⟨rfl, G7.out⟩

theorem widthTables_walk (a0 : Int) (_ : (Lit.int .i32 a0).wf = true) (w : World) (hT : Tab w) :
    Calls Tryd.prog 5 #[.int .i32 a0] w fun e w' => e = .returned (.bool true) ∧ Below w.heap.size w w' :=
  (tables_walk0 a0 w hT).mono fun _ _ h => ⟨h.1, h.2.new_below⟩

end Go.Proofs.YtlfhoiamacbfhaaDoor
