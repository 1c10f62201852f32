/-
  The runes of a cell's text: package cell.
-/
import Derived.Test.YtjcpdldaimebbaaDoorDSmall
import Derived.Test.YtjcpdldaimebbaaDoorDMarks
import Derived.Test.YtjcpdldaimebbaaDoorCTexts
namespace Go.Proofs.YtjcpdldaimebbaaDoor
open Go.RowKit

theorem new_base {a b c : World} {base : Nat} (h : New a b) (k : Fr (fun j => base ≤ j) b c) (hb : a.heap.size ≤ base) : New a c := Fr.trans h k (fun i hi hT => by omega)
theorem base_trans {a b c : World} {base : Nat} (h : Fr (fun j => base ≤ j) a b) (k : Fr (fun j => base ≤ j) b c) : Fr (fun j => base ≤ j) a c := Fr.trans h k (fun _ _ h => h)
theorem grown_base {w w' : World} {base : Nat} {v : Value} {n : Nat} {xs : List Value} {e : TypeId} {sz : Nat} (h : w.ownsRow base e sz v n xs) (hg : w.grownBy w' v.ownBlock) {a : World} (ha : Fr (fun j => base ≤ j) a w) : Fr (fun j => base ≤ j) a w' :=
  Fr.grown ha hg fun k hk => .inl (World.ownsRow.lt h k hk).1
theorem own32_fr {w w' : World} {base : Nat} {v : Value} {L : List Int} (h : Own32 w base v L) (hf : New w w') : Own32 w' base v L := own_fr h hf (fun _ _ h => h)
theorem own32_app {w2 : World} {base : Nat} {v2 : Value} {L M : List Int} {x : Int} {n : Nat} (e : M = L ++ [x]) (hn : n = L.length + 1) (h : w2.ownsRow base 21 1 v2 n (R32 L ++ R32 [x])) : Own32 w2 base v2 M := by
  subst e hn
  unfold Own32
  rw [List.length_append, R32, List.map_append]
  exact h
theorem mU_len (k : Nat) (c : Ce) : (mU k c).length ≤ 3 := by
  have h : ∀ (p : Prop) [Decidable p] (x : Int), (if p then [x] else []).length ≤ 1 := fun p _ x => by split <;> simp
  have h0 := h (0 < k ∧ c.m0 ≠ 0) c.m0
  have h1 := h (1 < k ∧ c.m1 ≠ 0) c.m1
  have h2 := h (2 < k ∧ c.m2 ≠ 0) c.m2
  unfold mU
  rw [List.length_append, List.length_append]
  omega
/-- What withRunes answers. -/
def WrSaid (base : Nat) (L : List Int) (w : World) (e : Ending) (w' : World) : Prop := (∃ v', e = .returned v' ∧ Own32 w' base v' L) ∧ Fr (fun k => base ≤ k) w w'

set_option maxHeartbeats 6400000 in
theorem withRunes_any (c : Ce) (L : List Int) (v : Value) (base : Nat) (w : World) (ho : Own32 w base v L) (hb : base ≤ w.heap.size) (hL : L.length ≤ 100000000) :
    Calls Tryd.prog 57 #[v, c.v] w (WrSaid base (L ++ textC c) w) := by
  have HO0 := Lib.hid ho
  have HO : Hid (Own32 (w.alloc (.cells c.cs 60)) base v L) := Lib.hid (own32_fr HO0.out (New.alloc _))
  have HN : Hid (Fr (fun k => base ≤ k) w (w.alloc (.cells c.cs 60))) := Lib.hid (Fr.of_new _ (New.alloc _))
  have HB := Lib.hid (Blk.new w 60 c.cs)
  have HBW : Hid (base ≤ (w.alloc (.cells c.cs 60)).heap.size) := Lib.hid (by simp; omega)
  clear ho
  by_cases w0 : c.wd = 0
  · have j0 : (c.wd == 0) = true := by simpa using w0
    have C1 := fun w => isSpacerK c true j0 w
    have HE : Hid (L ++ textC c = L) := Lib.hid (by simp [textC, w0])
    clear w0 j0
    go_enter Tryd.func57, Tryd.ntmps57
    go_wp2_with fail
    generalize w.alloc (.cells c.cs 60) = W at *
    refine (C1 _).mono ?_
    rintro e w1 ⟨rfl, hn⟩
    have HN1 : Hid (Fr (fun k => base ≤ k) w w1) := Lib.hid (base_trans HN.out (Fr.of_new _ hn))
    have HO1 := Lib.hid (own32_fr HO.out hn)
    clear hn
    go_wp2_with fail
    go_ret
    exact ⟨⟨_, rfl, by rw [HE.out]; exact HO1.out⟩, HN1.out⟩
  · have j0 : (c.wd == 0) = false := by simpa using w0
    have C1 := fun w => isSpacerK c false j0 w
    by_cases hr : c.r = 0
    · have jr : (c.r != 0) = false := by simpa using hr
      have C2 := fun w => WrittenK c false jr w
      have HE : Hid (L ++ textC c = L ++ [32]) := Lib.hid (by simp [textC, w0, hr])
      clear w0 j0 hr jr
      go_enter Tryd.func57, Tryd.ntmps57
      go_wp2_with fail
      generalize w.alloc (.cells c.cs 60) = W at *
      generalize w.heap.size = g at *
      refine (C1 _).mono ?_
      rintro e w1 ⟨rfl, hn⟩
      have HN1 : Hid (Fr (fun k => base ≤ k) w w1) := Lib.hid (base_trans HN.out (Fr.of_new _ hn))
      have HO1 := Lib.hid (own32_fr HO.out hn)
      have HB1 := Lib.hid (HB.out.fr hn (fun h => h))
      have HBW1 : Hid (base ≤ w1.heap.size) := Lib.hid (Nat.le_trans HBW.out hn.size)
      clear hn
      obtain ⟨d0, d1, d2, d3, d4, d5, d6, d7, d8, d9, d10, d11, d12, d13, d14, d15⟩ := HB1.out.sixteen
      go_wp2_with fail
      refine (C2 _).mono ?_
      rintro e w2 ⟨rfl, hn⟩
      have HN2 : Hid (Fr (fun k => base ≤ k) w w2) := Lib.hid (base_trans HN1.out (Fr.of_new _ hn))
      have HO2 := Lib.hid (own32_fr HO1.out hn)
      have HBW2 : Hid (base ≤ w2.heap.size) := Lib.hid (Nat.le_trans HBW1.out hn.size)
      clear hn d0 d1 d2 d3 d4 d5 d6 d7 d8 d9 d10 d11 d12 d13 d14 d15
      go_wp2_with (at_builtin; refine app32 rfl _ _ rfl base v _ (R32 L) rfl (World.ownsRow.alloc HO2.out _) w2.heap.size (some ⟨w2.heap.size, 0, none⟩) 1 1 (R32 [32]) rfl ?c1 ?c2 ?c3 ?c4 ?c5)
      case c1 => exact rd_one w2 _
      case c2 => exact one_cells _
      case c3 => omega
      case c4 => have := HBW2.out; simp; omega
      case c5 =>
      intro v2 w3 hown2 hg2
      have HN3 := Lib.hid (grown_base (World.ownsRow.alloc HO2.out _) hg2 (base_trans HN2.out (Fr.of_new _ (New.alloc _))))
      have HO3 : Hid (Own32 w3 base v2 (L ++ [32])) := Lib.hid (own32_app rfl rfl hown2)
      clear hown2 hg2
      go_wp2_with fail
      go_ret
      exact ⟨⟨_, rfl, by rw [HE.out]; exact HO3.out⟩, HN3.out⟩
    · have jr : (c.r != 0) = true := by simpa using hr
      have C2 := fun w => WrittenK c true jr w
      have HE : Hid (L ++ textC c = L ++ c.r :: marksI c) := Lib.hid (by simp [textC, w0, hr])
      clear w0 j0 hr jr
      go_enter Tryd.func57, Tryd.ntmps57
      go_wp2_with fail
      generalize w.alloc (.cells c.cs 60) = W at *
      generalize w.heap.size = g at *
      refine (C1 _).mono ?_
      rintro e w1 ⟨rfl, hn⟩
      have HN1 : Hid (Fr (fun k => base ≤ k) w w1) := Lib.hid (base_trans HN.out (Fr.of_new _ hn))
      have HO1 := Lib.hid (own32_fr HO.out hn)
      have HB1 := Lib.hid (HB.out.fr hn (fun h => h))
      have HBW1 : Hid (base ≤ w1.heap.size) := Lib.hid (Nat.le_trans HBW.out hn.size)
      clear hn
      obtain ⟨d0, d1, d2, d3, d4, d5, d6, d7, d8, d9, d10, d11, d12, d13, d14, d15⟩ := HB1.out.sixteen
      go_wp2_with fail
      refine (C2 _).mono ?_
      rintro e w2 ⟨rfl, hn⟩
      have HN2 : Hid (Fr (fun k => base ≤ k) w w2) := Lib.hid (base_trans HN1.out (Fr.of_new _ hn))
      have HO2 := Lib.hid (own32_fr HO1.out hn)
      have HB2 := Lib.hid (HB1.out.fr hn (fun h => h))
      have HBW2 : Hid (base ≤ w2.heap.size) := Lib.hid (Nat.le_trans HBW1.out hn.size)
      clear hn d0 d1 d2 d3 d4 d5 d6 d7 d8 d9 d10 d11 d12 d13 d14 d15
      obtain ⟨d0, d1, d2, d3, d4, d5, d6, d7, d8, d9, d10, d11, d12, d13, d14, d15⟩ := HB2.out.sixteen
      go_wp2_with (at_builtin; refine app32 rfl _ _ rfl base v _ (R32 L) rfl (World.ownsRow.alloc HO2.out _) w2.heap.size (some ⟨w2.heap.size, 0, none⟩) 1 1 (R32 [c.r]) rfl ?c1 ?c2 ?c3 ?c4 ?c5)
      case c1 => exact rd_one w2 _
      case c2 => exact one_cells _
      case c3 => omega
      case c4 => have := HBW2.out; simp; omega
      case c5 =>
      intro v3 w3 hown2 hg2
      have HN3 := Lib.hid (grown_base (World.ownsRow.alloc HO2.out _) hg2 (base_trans HN2.out (Fr.of_new _ (New.alloc _))))
      have HO3 : Hid (Own32 w3 base v3 (L ++ c.r :: mU 0 c)) := Lib.hid (own32_app (by simp [mU]) rfl hown2)
      have HB3 := Lib.hid ((HB2.out.alloc _).grown hg2 (own_far HO2.out HB2.out (by decide)))
      have HBW3 : Hid (base ≤ w3.heap.size) := Lib.hid (Nat.le_trans (Nat.le_trans HBW2.out (New.alloc _).size) hg2.size)
      clear hown2 hg2 d0 d1 d2 d3 d4 d5 d6 d7 d8 d9 d10 d11 d12 d13 d14 d15
      obtain ⟨d0, d1, d2, d3, d4, d5, d6, d7, d8, d9, d10, d11, d12, d13, d14, d15⟩ := HB3.out.sixteen
      go_wp2_with fail
      clear d0 d1 d2 d3 d4 d5 d6 d7 d8 d9 d10 d11 d12 d13 d14 d15
      go_loopw [0, 23] (fun v i wr => ∃ (k : Nat) (z : Int), (k : Int) = z ∧ k ≤ 3 ∧ i = .int .i64 z ∧ Own32 wr base v (L ++ c.r :: mU k c) ∧ Fr (fun k => base ≤ k) w wr ∧ base ≤ wr.heap.size) (fun _ i _ => 3 - (intOf i).toNat)
      case atStart => exact ⟨0, 0, rfl, by omega, rfl, HO3.out, HN3.out, HBW3.out⟩
      case round =>
      obtain ⟨k, z, hz, hk, rfl, ho, hn, hbw⟩ := hrel
      have HO := Lib.hid ho
      have HN := Lib.hid hn
      have HBW := Lib.hid hbw
      clear ho hn hbw
      have hk' : k = 3 ∨ k = 0 ∨ k = 1 ∨ k = 2 := by omega
      rcases hk' with rfl | rfl | rfl | rfl
      · obtain rfl : z = 3 := hz.symm
        go_wp2_with fail
        go_ret
        exact ⟨⟨_, rfl, by rw [HE.out, ← mU_three]; exact HO.out⟩, HN.out⟩
      · obtain rfl : z = 0 := hz.symm
        have hix := fun w => ix0 c.m0 c.m1 c.m2 w
        by_cases hm : c.m0 = 0
        · have jm' : (c.m0 != 0) = false := by simpa using hm
          have HE : Hid (mU 1 c = mU 0 c) := Lib.hid (by simp [mU, hm])
          clear hm
          go_wp2_with fail
          go_roundw
          case rel => exact ⟨1, 1, rfl, by omega, rfl, by rw [HE.out]; exact HO.out, HN.out, HBW.out⟩
          case measure => simp [intOf]
        · have jm' : (c.m0 != 0) = true := by simpa using hm
          have HE : Hid (L ++ c.r :: mU 1 c = (L ++ c.r :: mU 0 c) ++ [c.m0]) := Lib.hid (by simp [mU, hm])
          clear hm
          have hlen : (L ++ c.r :: mU 0 c).length ≤ 100000004 := by have := mU_len 0 c; simp; omega
          go_wp2_with (at_builtin; refine app32 rfl _ _ rfl base _ _ (R32 (L ++ c.r :: mU 0 c)) rfl (World.ownsRow.alloc HO.out _) wr.heap.size (some ⟨wr.heap.size, 0, none⟩) 1 1 (R32 [c.m0]) rfl ?c1 ?c2 ?c3 ?c4 ?c5)
          case c1 => exact rd_one wr _
          case c2 => exact one_cells _
          case c3 => omega
          case c4 => have := HBW.out; simp; omega
          case c5 =>
          intro v2 w2 hown2 hg2
          have HN2 := Lib.hid (grown_base (World.ownsRow.alloc HO.out _) hg2 (base_trans HN.out (Fr.of_new _ (New.alloc _))))
          have HO2 : Hid (Own32 w2 base v2 (L ++ c.r :: mU 1 c)) := Lib.hid (own32_app HE.out (by simp) hown2)
          have HBW2 : Hid (base ≤ w2.heap.size) := Lib.hid (Nat.le_trans (Nat.le_trans HBW.out (New.alloc _).size) hg2.size)
          clear hown2 hg2
          go_wp2_with fail
          go_roundw
          case rel => exact ⟨1, 1, rfl, by omega, rfl, HO2.out, HN2.out, HBW2.out⟩
          case measure => simp [intOf]
      · obtain rfl : z = 1 := hz.symm
        have hix := fun w => ix1 c.m0 c.m1 c.m2 w
        by_cases hm : c.m1 = 0
        · have jm' : (c.m1 != 0) = false := by simpa using hm
          have HE : Hid (mU 2 c = mU 1 c) := Lib.hid (by simp [mU, hm])
          clear hm
          go_wp2_with fail
          go_roundw
          case rel => exact ⟨2, 2, rfl, by omega, rfl, by rw [HE.out]; exact HO.out, HN.out, HBW.out⟩
          case measure => simp [intOf]
        · have jm' : (c.m1 != 0) = true := by simpa using hm
          have HE : Hid (L ++ c.r :: mU 2 c = (L ++ c.r :: mU 1 c) ++ [c.m1]) := Lib.hid (by simp [mU, hm])
          clear hm
          have hlen : (L ++ c.r :: mU 1 c).length ≤ 100000004 := by have := mU_len 1 c; simp; omega
          go_wp2_with (at_builtin; refine app32 rfl _ _ rfl base _ _ (R32 (L ++ c.r :: mU 1 c)) rfl (World.ownsRow.alloc HO.out _) wr.heap.size (some ⟨wr.heap.size, 0, none⟩) 1 1 (R32 [c.m1]) rfl ?c1 ?c2 ?c3 ?c4 ?c5)
          case c1 => exact rd_one wr _
          case c2 => exact one_cells _
          case c3 => omega
          case c4 => have := HBW.out; simp; omega
          case c5 =>
          intro v2 w2 hown2 hg2
          have HN2 := Lib.hid (grown_base (World.ownsRow.alloc HO.out _) hg2 (base_trans HN.out (Fr.of_new _ (New.alloc _))))
          have HO2 : Hid (Own32 w2 base v2 (L ++ c.r :: mU 2 c)) := Lib.hid (own32_app HE.out (by simp) hown2)
          have HBW2 : Hid (base ≤ w2.heap.size) := Lib.hid (Nat.le_trans (Nat.le_trans HBW.out (New.alloc _).size) hg2.size)
          clear hown2 hg2
          go_wp2_with fail
          go_roundw
          case rel => exact ⟨2, 2, rfl, by omega, rfl, HO2.out, HN2.out, HBW2.out⟩
          case measure => simp [intOf]
      · obtain rfl : z = 2 := hz.symm
        have hix := fun w => ix2 c.m0 c.m1 c.m2 w
        by_cases hm : c.m2 = 0
        · have jm' : (c.m2 != 0) = false := by simpa using hm
          have HE : Hid (mU 3 c = mU 2 c) := Lib.hid (by simp [mU, hm])
          clear hm
          go_wp2_with fail
          go_roundw
          case rel => exact ⟨3, 3, rfl, by omega, rfl, by rw [HE.out]; exact HO.out, HN.out, HBW.out⟩
          case measure => simp [intOf]
        · have jm' : (c.m2 != 0) = true := by simpa using hm
          have HE : Hid (L ++ c.r :: mU 3 c = (L ++ c.r :: mU 2 c) ++ [c.m2]) := Lib.hid (by simp [mU, hm])
          clear hm
          have hlen : (L ++ c.r :: mU 2 c).length ≤ 100000004 := by have := mU_len 2 c; simp; omega
          go_wp2_with (at_builtin; refine app32 rfl _ _ rfl base _ _ (R32 (L ++ c.r :: mU 2 c)) rfl (World.ownsRow.alloc HO.out _) wr.heap.size (some ⟨wr.heap.size, 0, none⟩) 1 1 (R32 [c.m2]) rfl ?c1 ?c2 ?c3 ?c4 ?c5)
          case c1 => exact rd_one wr _
          case c2 => exact one_cells _
          case c3 => omega
          case c4 => have := HBW.out; simp; omega
          case c5 =>
          intro v2 w2 hown2 hg2
          have HN2 := Lib.hid (grown_base (World.ownsRow.alloc HO.out _) hg2 (base_trans HN.out (Fr.of_new _ (New.alloc _))))
          have HO2 : Hid (Own32 w2 base v2 (L ++ c.r :: mU 3 c)) := Lib.hid (own32_app HE.out (by simp) hown2)
          have HBW2 : Hid (base ≤ w2.heap.size) := Lib.hid (Nat.le_trans (Nat.le_trans HBW.out (New.alloc _).size) hg2.size)
          clear hown2 hg2
          go_wp2_with fail
          go_roundw
          case rel => exact ⟨3, 3, rfl, by omega, rfl, HO2.out, HN2.out, HBW2.out⟩
          case measure => simp [intOf]

end Go.Proofs.YtjcpdldaimebbaaDoor
