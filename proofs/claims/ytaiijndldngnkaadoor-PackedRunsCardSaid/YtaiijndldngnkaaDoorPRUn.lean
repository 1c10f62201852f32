/-
  The specification's pen with a word.
-/
import Derived.Test.YtaiijndldngnkaaDoorPPen
namespace Go.Proofs.YtaiijndldngnkaaDoor
open Go.RowKit

theorem Blk.far11 {w : World} {g h : Nat} {t : TypeId} {cs : Array Value} (B : Blk w h t cs) (hne : h ≠ g) {x0 x1 x2 x3 x4 x5 x6 x7 x8 x9 x10 : Value} : Blk (((((((((((w.setCell ⟨g, 0, none⟩ x0).setCell ⟨g, 1, none⟩ x1).setCell ⟨g, 2, none⟩ x2).setCell ⟨g, 3, none⟩ x3).setCell ⟨g, 4, none⟩ x4).setCell ⟨g, 5, none⟩ x5).setCell ⟨g, 6, none⟩ x6).setCell ⟨g, 7, none⟩ x7).setCell ⟨g, 8, none⟩ x8).setCell ⟨g, 9, none⟩ x9).setCell ⟨g, 10, none⟩ x10) h t cs :=
  (((((((((((B.far (p := ⟨g, 0, none⟩) hne x0).far (p := ⟨g, 1, none⟩) hne x1).far (p := ⟨g, 2, none⟩) hne x2).far (p := ⟨g, 3, none⟩) hne x3).far (p := ⟨g, 4, none⟩) hne x4).far (p := ⟨g, 5, none⟩) hne x5).far (p := ⟨g, 6, none⟩) hne x6).far (p := ⟨g, 7, none⟩) hne x7).far (p := ⟨g, 8, none⟩) hne x8).far (p := ⟨g, 9, none⟩) hne x9).far (p := ⟨g, 10, none⟩) hne x10)

set_option maxHeartbeats 4000000 in
theorem RUnpack_any (x : Int) (h0 : 0 ≤ x) (h1 : x < 18446744073709551616) (w : World) :
    Calls Tryd.prog 34 #[.int .u64 x] w fun e w' => e = .returned (.tuple #[(penW x).v, .bool (wordI (penW x) == x)]) ∧ New w w' := by
  have a3 : IntKind.u8.wrap (x / 4503599627370496 % 256) = x / 4503599627370496 % 256 := by rw [IntKind.wrap_u8]; omega
  go_enter Tryd.func34, Tryd.ntmps34
  go_wp2_with fail
  refine (RColorOf_any (x % 67108864) (by omega) (by omega) _).mono ?_
  rintro e w1 ⟨rfl, hn⟩
  have HN := Lib.hid ((New.alloc _).trans hn)
  have HB := Lib.hid ((zeros w).fr hn (fun h => h))
  clear hn
  go_wp2_with fail
  refine (RColorOf_any (x / 67108864 % 67108864) (by omega) (by omega) _).mono ?_
  rintro e w2 ⟨rfl, hn⟩
  have HN2 := Lib.hid (HN.out.trans hn)
  have HB2 := Lib.hid (HB.out.fr hn (fun h => h))
  clear hn
  go_wp2_with fail
  have hok : Pn.Ok ⟨colW (x % 67108864), colW (x / 67108864 % 67108864), x / 4503599627370496 % 256⟩ := penW_ok x
  have hpen : (⟨colW (x % 67108864), colW (x / 67108864 % 67108864), x / 4503599627370496 % 256⟩ : Pn) = penW x := rfl
  generalize colW (x % 67108864) = c1 at *
  generalize colW (x / 67108864 % 67108864) = c2 at *
  generalize x / 4503599627370496 % 256 = fl at *
  have HP := Lib.hid (Blk.new w2 28 (Pn.cs ⟨c1, c2, fl⟩))
  have HB3 := Lib.hid (HB2.out.alloc (.cells (Pn.cs ⟨c1, c2, fl⟩) 28))
  have HN3 := Lib.hid (HN2.out.trans (New.alloc (.cells (Pn.cs ⟨c1, c2, fl⟩) 28)))
  have hne : w2.heap.size ≠ w.heap.size := fun h => by have := HB2.out.lt; omega
  generalize w2.alloc (.cells (Pn.cs ⟨c1, c2, fl⟩) 28) = W at *
  generalize hg : w.heap.size = g at *
  generalize w2.heap.size = g2 at *
  have d := HP.out.eleven
  clear HB HB2 HN HN2
  go_region_held3 (fun w' => w'.cell? ⟨g2, 0, none⟩ = some (.int .i64 c1.k) ∧ w'.cell? ⟨g2, 1, none⟩ = some (.int .u8 c1.i) ∧ w'.cell? ⟨g2, 2, none⟩ = some (.int .u8 c1.r) ∧ w'.cell? ⟨g2, 3, none⟩ = some (.int .u8 c1.g) ∧ w'.cell? ⟨g2, 4, none⟩ = some (.int .u8 c1.b) ∧ w'.cell? ⟨g2, 5, none⟩ = some (.int .i64 c2.k) ∧ w'.cell? ⟨g2, 6, none⟩ = some (.int .u8 c2.i) ∧ w'.cell? ⟨g2, 7, none⟩ = some (.int .u8 c2.r) ∧ w'.cell? ⟨g2, 8, none⟩ = some (.int .u8 c2.g) ∧ w'.cell? ⟨g2, 9, none⟩ = some (.int .u8 c2.b) ∧ w'.cell? ⟨g2, 10, none⟩ = some (.int .u8 fl)) (first | (show (World.setCell _ _ _).cell? _ = _ ∧ _; exact (HP.out.far11 hne).eleven) | exact HP.out.eleven) (first | (go_at_call 32; refine (RPack_any ⟨c1, c2, fl⟩ hok _).mono ?_; rintro e w3 ⟨rfl, hn⟩; have HP := Lib.hid (HP.out.fr hn.of_drew (fun h => h)); have HB4 := Lib.hid (HB3.out.fr hn.of_drew (fun h => h)); have HN4 := Lib.hid (HN3.out.trans hn.of_drew); clear hn; obtain ⟨q0, q1, q2, q3, q4, q5, q6, q7, q8, q9, q10⟩ := HB4.out.eleven; have fz := HB4.out.free))
  all_goals
    first | go_wp2 | skip
    have B := HB4.out.set11 (.int .i64 c1.k) (.int .u8 c1.i) (.int .u8 c1.r) (.int .u8 c1.g) (.int .u8 c1.b) (.int .i64 c2.k) (.int .u8 c2.i) (.int .u8 c2.r) (.int .u8 c2.g) (.int .u8 c2.b) (.int .u8 fl)
    obtain ⟨e0, e1, e2, e3, e4, e5, e6, e7, e8, e9, e10⟩ := B.eleven
    refine bodyPost_ret (v := .tuple #[Pn.v ⟨c1, c2, fl⟩, .bool (wordI (penW x) == x)]) (by simp [results, Tryd.results34, go_sem, e0, e1, e2, e3, e4, e5, e6, e7, e8, e9, e10]) rfl ?_
    exact ⟨by rw [← hpen], HN4.out.set11 (.inr (Nat.le_of_eq hg)) _ _ _ _ _ _ _ _ _ _ _⟩

end Go.Proofs.YtaiijndldngnkaaDoor
