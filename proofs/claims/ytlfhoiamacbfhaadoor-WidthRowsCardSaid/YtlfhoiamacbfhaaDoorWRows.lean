/-
  How many columns all runes have whose numbers begin with the same bits.
-/
import Derived.Test.YtlfhoiamacbfhaaDoorKnown
namespace Go.Proofs.YtlfhoiamacbfhaaDoor
open Go.RowKit

set_option maxHeartbeats 2000000 in
theorem rows_walk0 (a : Int) (ha : 0 ≤ a ∧ a < 65536) (w : World) (hT : Tab w) :
    Calls Tryd.prog 4 #[.int .u16 a] w fun e w' => e = .returned (.bool true) ∧ New w w' := by
  have H := Lib.hid hT
  clear hT
  obtain ⟨ha0, ha1⟩ := ha
  by_cases hbig : 4352 < a
  · go_enter Tryd.func4, Tryd.ntmps4
    go_wp2_with fail
    refine (known_any _ H.out).mono ?_
    rintro e w7 ⟨rfl, h7⟩
    have G7 := Lib.hid h7
    clear h7
    go_wp2_with fail
    go_ret
    exact ⟨rfl, G7.out⟩
  · have hle : a ≤ 4352 := by omega
    go_enter Tryd.func4, Tryd.ntmps4
    go_wp2
    go_loopw [3] (fun i wr => ∃ k : Nat, k ≤ 256 ∧ i = .int .i64 k ∧ New w wr) (fun i _ => 256 - (intOf i).toNat)
    case atStart => exact ⟨0, by omega, rfl, Fr.refl _ _⟩
    case round =>
      obtain ⟨k, hk, rfl, hnew⟩ := hrel
      have HW := Lib.hid hnew
      clear hnew
      by_cases hlt : k < 256
      · have j1 : (k : Int) < 256 := by omega
        go_wp2_with fail
        refine (Of_any _ _ (H.out.new HW.out)).mono ?_
        rintro e w1 ⟨rfl, h1⟩
        have G1 := Lib.hid (HW.out.trans h1)
        clear h1
        go_wp2_with fail
        refine (ROf_any _ _).mono ?_
        rintro e w2 ⟨rfl, h2⟩
        have G2 := Lib.hid (G1.out.trans h2)
        clear h2
        go_wp2_with fail
        go_roundw
        case rel => exact ⟨k + 1, by omega, by go_num, G2.out⟩
        case measure => simp [intOf]; omega
      · have j1 : ¬ (k : Int) < 256 := by omega
        go_wp2_with fail
        refine (known_any _ (H.out.new HW.out)).mono ?_
        rintro e w7 ⟨rfl, h7⟩
        have G7 := Lib.hid (HW.out.trans h7)
        clear h7
        go_wp2_with fail
        go_ret
        exact ⟨rfl, G7.out⟩

theorem bounds_u16 {n : Int} (h : (Lit.int .u16 n).wf = true) : 0 ≤ n ∧ n < 65536 := by
  have : 0 ≤ n ∧ n ≤ 65535 := by simpa [Lit.wf, IntKind.min, IntKind.max, IntKind.signed, IntKind.bits] using h
  omega

theorem widthRows_walk (a0 : Int) (w0 : (Lit.int .u16 a0).wf = true) (w : World) (hT : Tab w) :
    Calls Tryd.prog 4 #[.int .u16 a0] w fun e w' => e = .returned (.bool true) ∧ Below w.heap.size w w' :=
  (rows_walk0 a0 (bounds_u16 w0) w hT).mono fun _ _ h => ⟨h.1, h.2.new_below⟩

end Go.Proofs.YtlfhoiamacbfhaaDoor
