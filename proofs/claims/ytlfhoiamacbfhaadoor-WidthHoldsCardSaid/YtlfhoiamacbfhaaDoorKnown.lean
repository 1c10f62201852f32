/-
  The chapter's examples.
-/
import Derived.Test.YtlfhoiamacbfhaaDoorText
import Derived.Deep.RegionWith
import Derived.Deep.DeepMust
namespace Go.Proofs.YtlfhoiamacbfhaaDoor
open Go.RowKit

def exL : List (Int × Int) := [(65, 1), (31, -1), (127, -1), (159, -1), (160, 1), (769, 0), (19968, 2), (128512, 2), (65533, 1), (55296, -1), (12330, 0), (12329, 2), (12336, 2), (12351, 1), (8203, 0), (196606, 1), (1114111, 1), (-1, -1)]
theorem ex_of : ∀ j, j < 18 → ofI (lo exL j) = hi exL j := by decide

theorem blk_lit {w : World} {t : TypeId} {cs : Array Value} (W : World) (h : W = w.alloc (.cells cs t)) (b : Nat) (hb : b = w.heap.size) : Blk W b t cs := by
  subst h hb
  exact Blk.new w t cs
theorem rd_lit {w : World} {t : TypeId} {cs : Array Value} (n : Nat) (xs : List Value) (h : xs = cs.toList) (hn : xs.length = n) : Rd (w.alloc (.cells cs t)) w.heap.size (some ⟨w.heap.size, 0, none⟩) n xs :=
  Rd.of_blk (Blk.new w t cs) 0 hn (fun j _ => by subst h; simp)

theorem rd_at {w : World} (t : TypeId) (cs : Array Value) (n : Nat) (xs : List Value) (h : xs = cs.toList) (hn : xs.length = n) (H : Nat) (hH : w.heap.size = H) : Rd (w.alloc (.cells cs t)) H (some ⟨H, 0, none⟩) n xs := by
  subst hH
  exact rd_lit n xs h hn

theorem Text_n (l : List Int) (n : Nat) (hn : l.length = n) (hl : n ≤ 1000000) (s : Int) (hs : textI l = s) (w : World) (hT : Tab w) (b : Nat) (A : Option Addr) (cap : Nat) (hr : Rd w b A n (R32 l)) :
    Calls Tryd.prog 15 #[.slice A n cap] w fun e w' => e = .returned (.int .i64 s) ∧ New w w' := by
  subst hs
  exact Text_any l n hn hl w hT b A cap hr
theorem Fits_n (l : List Int) (n : Nat) (hn : l.length = n) (hl : n ≤ 1000000) (c : Int) (hc : -9223372036854775808 ≤ c ∧ c ≤ 9223372036854775807) (k : Int) (hk : (fitsI l c : Int) = k) (w : World) (hT : Tab w) (b : Nat) (A : Option Addr) (cap : Nat) (hr : Rd w b A n (R32 l)) :
    Calls Tryd.prog 16 #[.slice A n cap, .int .i64 c] w fun e w' => e = .returned (.int .i64 k) ∧ New w w' := by
  subst hk
  exact Fits_any l n hn hl c hc w hT b A cap hr

set_option maxHeartbeats 4000000 in
theorem known_any (w : World) (hT : Tab w) : Calls Tryd.prog 9 #[] w fun e w' => e = .returned (.bool true) ∧ New w w' := by
  have H := Lib.hid hT
  clear hT
  go_enter Tryd.func9, Tryd.ntmps9
  go_wp2_with fail
  go_loopw [24] (fun i wr => ∃ k : Nat, k ≤ 18 ∧ i = .int .i64 k ∧ New w wr ∧ Rg wr w.heap.size exL) (fun i _ => 18 - (intOf i).toNat)
  case atStart => exact ⟨0, by omega, rfl, New.alloc _, Rg.of_blk (t := 30) (Blk.new w 30 _)⟩
  case round =>
    obtain ⟨k, hk, rfl, hnew, hrg⟩ := hrel
    have HW := Lib.hid hnew
    have HR := Lib.hid hrg
    clear hnew hrg
    by_cases hlt : k < 18
    · have c1 := (HR.out.2 k hlt).1
      have c2 := (HR.out.2 k hlt).2
      have HO := Lib.hid (ex_of k hlt)
      obtain ⟨x, hx⟩ : ∃ x, lo exL k = x := ⟨_, rfl⟩
      obtain ⟨y, hy⟩ : ∃ y, hi exL k = y := ⟨_, rfl⟩
      have hyb : -1 ≤ y ∧ y ≤ 2 := by rw [← hy, ← HO.out]; exact of_bound _
      rw [hx] at c1 HO
      rw [hy] at c2 HO
      clear hx hy
      obtain ⟨hy1, hy2⟩ := hyb
      have j1 : (k : Int) < 18 := by omega
      have HF : Hid (∀ W, Tab W → Calls Tryd.prog 7 #[.int .i32 x] W fun e w' => e = .returned (.int .i64 y) ∧ New W w') := Lib.hid (fun W h => by
        have := Of_any x W h
        rwa [HO.out] at this)
      go_wp2
      have B0 := (Blk.new wr 30 #[.int .i32 x, .int .i32 y])
      have N1 : Hid (New w (wr.alloc (.cells #[.int .i32 x, .int .i32 y] 30))) := Lib.hid (HW.out.trans (New.alloc _))
      have B1 := Lib.hid B0
      have R1 : Hid (Rg (wr.alloc (.cells #[.int .i32 x, .int .i32 y] 30)) w.heap.size exL) := Lib.hid (HR.out.new (New.alloc _))
      have d0 := B0.cell 0
      have d1 := B0.cell 1
      clear B0 c1 c2
      generalize wr.alloc (.cells #[.int .i32 x, .int .i32 y] 30) = W1 at *
      generalize wr.heap.size = g at *
      simp at d0 d1
      have hwr : IntKind.i64.wrap y = y := IntWalk.i64_in y ⟨by omega, by omega⟩
      go_region_with (go_at_call 7; go_must (refine (HF.out W1.drew (H.out.new (Fr.drew N1.out))).mono ?_); rintro e w2 ⟨rfl, hn⟩; have HN : Hid (New W1 w2) := Lib.hid hn.of_drew; clear hn; have d2 : w2.cell? ⟨g, 1, none⟩ = some (.int .i32 y) := (Blk.fr B1.out HN.out (fun h => h)).cell 1)
      all_goals
        first | go_wp2 | skip
        go_roundw
        case rel => exact ⟨k + 1, by omega, by go_num, N1.out.trans HN.out, R1.out.new HN.out⟩
        case measure => simp [intOf]; omega
    · have j1 : ¬ (k : Int) < 18 := by omega
      go_wp2_with fail
      refine (Text_n [97, 769, 19968, 7] 4 rfl (by omega) 3 (by decide) _ (H.out.new ((HW.out.trans (New.alloc _)).trans (New.alloc _))) _ _ _ (rd_at _ _ 4 _ rfl rfl _ (by simp))).mono ?_
      rintro e w1 ⟨rfl, h1⟩
      have RD : Hid (Rd w1 wr.heap.size (some ⟨wr.heap.size, 0, none⟩) 4 (R32 [97, 769, 19968, 98])) := Lib.hid (((rd_at (w := wr) 21 #[.int .i32 97, .int .i32 769, .int .i32 19968, .int .i32 98] 4 _ rfl rfl _ rfl).new (New.alloc _)).new h1)
      have G1 : Hid (New w w1) := Lib.hid (((HW.out.trans (New.alloc _)).trans (New.alloc _)).trans h1)
      clear h1
      generalize wr.heap.size = g at *
      go_wp2_with fail
      refine (Fits_n [97, 769, 19968, 98] 4 rfl (by omega) 2 (by omega) 2 (by decide) _ (H.out.new G1.out) _ _ _ RD.out).mono ?_
      rintro e w2 ⟨rfl, h2⟩
      have G2 : Hid (New w w2) := Lib.hid (G1.out.trans h2)
      have RD2 := Lib.hid (RD.out.new h2)
      clear h2
      go_wp2_with fail
      refine (Fits_n [97, 769, 19968, 98] 4 rfl (by omega) 3 (by omega) 3 (by decide) _ (H.out.new G2.out) _ _ _ RD2.out).mono ?_
      rintro e w3 ⟨rfl, h3⟩
      have G3 : Hid (New w w3) := Lib.hid (G2.out.trans h3)
      clear h3
      go_wp2_with fail
      refine (Fits_n [19968] 1 rfl (by omega) 1 (by omega) 0 (by decide) _ (H.out.new (G3.out.trans (New.alloc _))) _ _ _ (rd_at _ _ 1 _ rfl rfl _ rfl)).mono ?_
      rintro e w4 ⟨rfl, h4⟩
      have G4 : Hid (New w w4) := Lib.hid ((G3.out.trans (New.alloc _)).trans h4)
      clear h4
      go_wp2_with fail
      refine (Fits_n [769] 1 rfl (by omega) 0 (by omega) 1 (by decide) _ (H.out.new (G4.out.trans (New.alloc _))) _ _ _ (rd_at _ _ 1 _ rfl rfl _ rfl)).mono ?_
      rintro e w5 ⟨rfl, h5⟩
      have G5 : Hid (New w w5) := Lib.hid ((G4.out.trans (New.alloc _)).trans h5)
      clear h5
      go_wp2_with fail
      refine (Fits_n [] 0 rfl (by omega) (-1) (by omega) 0 (by decide) _ (H.out.new G5.out) _ _ _ (Rd.nil _ 0 _)).mono ?_
      rintro e w6 ⟨rfl, h6⟩
      have G6 : Hid (New w w6) := Lib.hid (G5.out.trans h6)
      clear h6
      go_wp2_with fail
      go_ret
      exact ⟨rfl, G6.out⟩

end Go.Proofs.YtlfhoiamacbfhaaDoor
