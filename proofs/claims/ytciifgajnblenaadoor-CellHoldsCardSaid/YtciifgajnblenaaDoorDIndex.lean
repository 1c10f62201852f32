/-
  slices.Index over the marks of a cell.
-/
import Derived.Test.YtciifgajnblenaaDoorCMark
namespace Go.Proofs.YtciifgajnblenaaDoor
open Go.RowKit

/-- Which mark is the first that is 0. -/
def idxM (c : Ce) : Int := if c.m0 = 0 then 0 else if c.m1 = 0 then 1 else if c.m2 = 0 then 2 else -1
set_option maxHeartbeats 3200000 in
theorem IndexK (c : Ce) (g : Nat) (w : World) (hB : Blk w g 30 c.cs) :
    Calls Tryd.prog 46 #[.slice (some ⟨g, 1, none⟩) 3 3, .int .i32 0] w fun e w' => e = .returned (.int .i64 (idxM c)) ∧ New w w' := by
  have HB := Lib.hid hB
  clear hB
  go_enter Tryd.func46, Tryd.ntmps46
  go_wp2_with fail
  go_loopw [8] (fun i wr => ∃ (k : Nat) (z : Int), (k : Int) = z ∧ k ≤ 3 ∧ i = .int .i64 z ∧ New w wr ∧ (0 < k → c.m0 ≠ 0) ∧ (1 < k → c.m1 ≠ 0) ∧ (2 < k → c.m2 ≠ 0)) (fun i _ => 3 - (intOf i).toNat)
  case atStart => exact ⟨0, 0, rfl, by omega, rfl, Fr.refl _ _, by omega, by omega, by omega⟩
  case round =>
    obtain ⟨k, z, hz, hk, rfl, hn, h0, h1, h2⟩ := hrel
    obtain ⟨d0, d1, d2, d3, d4, d5, d6, d7, d8, d9, d10, d11, d12, d13, d14, d15⟩ := (HB.out.fr hn (fun h => h)).sixteen
    have HN := Lib.hid hn
    clear hn
    have hk' : k = 3 ∨ k = 0 ∨ k = 1 ∨ k = 2 := by omega
    rcases hk' with rfl | rfl | rfl | rfl
    · obtain rfl : z = 3 := hz.symm
      have HI : Hid (idxM c = -1) := Lib.hid (by simp [idxM, h0 (by omega), h1 (by omega), h2 (by omega)])
      clear h0 h1 h2
      go_wp2_with fail
      go_ret
      exact ⟨ret_int HI.out.symm, HN.out⟩
    · obtain rfl : z = 0 := hz.symm
      by_cases hm : c.m0 = 0
      · have jm : (0 == c.m0) = true := beq_iff_eq.2 hm.symm
        have HI : Hid (idxM c = 0) := Lib.hid (by simp [idxM,  hm])
        clear h0 h1 h2 hm
        go_wp2_with fail
        go_ret
        exact ⟨ret_int HI.out.symm, HN.out⟩
      · have jm : (0 == c.m0) = false := beq_eq_false_iff_ne.2 (Ne.symm hm)
        have HM := Lib.hid hm
        have K0 := Lib.hid h0
        have K1 := Lib.hid h1
        have K2 := Lib.hid h2
        clear h0 h1 h2 hm
        go_wp2_with fail
        go_roundw
        case rel => exact ⟨1, 1, rfl, by omega, rfl, HN.out, fun _ => HM.out, by omega, by omega⟩
        case measure => decide
    · obtain rfl : z = 1 := hz.symm
      by_cases hm : c.m1 = 0
      · have jm : (0 == c.m1) = true := beq_iff_eq.2 hm.symm
        have HI : Hid (idxM c = 1) := Lib.hid (by simp [idxM, h0 (by omega), hm])
        clear h0 h1 h2 hm
        go_wp2_with fail
        go_ret
        exact ⟨ret_int HI.out.symm, HN.out⟩
      · have jm : (0 == c.m1) = false := beq_eq_false_iff_ne.2 (Ne.symm hm)
        have HM := Lib.hid hm
        have K0 := Lib.hid h0
        have K1 := Lib.hid h1
        have K2 := Lib.hid h2
        clear h0 h1 h2 hm
        go_wp2_with fail
        go_roundw
        case rel => exact ⟨2, 2, rfl, by omega, rfl, HN.out, fun _ => K0.out (by omega), fun _ => HM.out, by omega⟩
        case measure => decide
    · obtain rfl : z = 2 := hz.symm
      by_cases hm : c.m2 = 0
      · have jm : (0 == c.m2) = true := beq_iff_eq.2 hm.symm
        have HI : Hid (idxM c = 2) := Lib.hid (by simp [idxM, h0 (by omega), h1 (by omega), hm])
        clear h0 h1 h2 hm
        go_wp2_with fail
        go_ret
        exact ⟨ret_int HI.out.symm, HN.out⟩
      · have jm : (0 == c.m2) = false := beq_eq_false_iff_ne.2 (Ne.symm hm)
        have HM := Lib.hid hm
        have K0 := Lib.hid h0
        have K1 := Lib.hid h1
        have K2 := Lib.hid h2
        clear h0 h1 h2 hm
        go_wp2_with fail
        go_roundw
        case rel => exact ⟨3, 3, rfl, by omega, rfl, HN.out, fun _ => K0.out (by omega), fun _ => K1.out (by omega), fun _ => HM.out⟩
        case measure => decide

end Go.Proofs.YtciifgajnblenaaDoor
