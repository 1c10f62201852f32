/-
  The program's two tables, given out as copies; both are those of the specification.
-/
import Derived.Test.YtlfhoiamacbfhaaDoorKnown
import Derived.Laws.Tables
import Derived.Deep.WholeRow
import Derived.Deep.QuietTactic
import Derived.BigQuiet
import Derived.Laws.StructEq
import Derived.ChangeKeysEq
namespace Go.Proofs.YtlfhoiamacbfhaaDoor
open Go.RowKit

set_option maxHeartbeats 1000000 in
theorem Marks_any (w : World) (hT : Tab w) :
    Calls Tryd.prog 10 #[] w fun e w' => ∃ b, e = .returned (.slice (some ⟨b, 0, none⟩) 18 18) ∧ Blk w' b 37 (arr marksL) ∧ w.heap.size ≤ b ∧ New w w' := by
  obtain ⟨t, f, hm⟩ := hT.m
  clear hT
  go_enter Tryd.func10, Tryd.ntmps10
  go_wp2_with (first
    | (refine wpList_load_row rfl 37 _ rfl 0 rfl t (arr marksL) f _ hm Tryd.underlying37 rfl (by kernel_rfl) ?_)
    | (refine wpList_store_row rfl 37 _ _ rfl w.heap.size (arr marksL) rfl rfl 37 _ (heap_alloc_new _ _) (by kernel_rfl) rfl (by kernel_rfl) ?_; rw [World.setRow_alloc_new]))
  go_ret
  exact ⟨_, rfl, Blk.new w _ _, Nat.le_refl _, New.alloc _⟩

set_option maxHeartbeats 1000000 in
theorem Wide_any (w : World) (hT : Tab w) :
    Calls Tryd.prog 11 #[] w fun e w' => ∃ b, e = .returned (.slice (some ⟨b, 0, none⟩) 19 19) ∧ Blk w' b 38 (arr wideL) ∧ w.heap.size ≤ b ∧ New w w' := by
  obtain ⟨t, f, hm⟩ := hT.w
  clear hT
  go_enter Tryd.func11, Tryd.ntmps11
  go_wp2_with (first
    | (refine wpList_load_row rfl 38 _ rfl 1 rfl t (arr wideL) f _ hm Tryd.underlying38 rfl (by kernel_rfl) ?_)
    | (refine wpList_store_row rfl 38 _ _ rfl w.heap.size (arr wideL) rfl rfl 38 _ (heap_alloc_new _ _) (by kernel_rfl) rfl (by kernel_rfl) ?_; rw [World.setRow_alloc_new]))
  go_ret
  exact ⟨_, rfl, Blk.new w _ _, Nat.le_refl _, New.alloc _⟩

theorem info32 : ∃ i, Tryd.prog.info? 21 = some i ∧ i.size = 1 := by
  have h : (Tryd.prog.info? 21).map (·.size) = some 1 := by kernel_rfl
  cases hq : Tryd.prog.info? 21 with
  | none => rw [hq] at h; cases h
  | some i => rw [hq] at h; exact ⟨i, rfl, Option.some.inj h⟩
theorem isAgg32 : Tryd.prog.underlying 21 = some (.int .i32) := Tryd.underlying21
theorem eq_pair (w : World) (a b c d : Int) : (Op.equalIn 10000 30 (.agg #[.int .i32 a, .int .i32 b]) (.agg #[.int .i32 c, .int .i32 d])).run Tryd.prog w = .ok (a == c && b == d) w := by
  obtain ⟨i, hi, _⟩ := info32
  have hc : Tryd.prog.cellsOf 21 = 1 := by kernel_rfl
  have h1 := run_equalIn_array w 9999 #[.int .i32 a, .int .i32 b] #[.int .i32 c, .int .i32 d] Tryd.underlying30 hi
  refine h1.trans ?_
  have p0 : ∀ (x y : Int) (w : World), (part 21 #[.int .i32 x, .int .i32 y] 0).run Tryd.prog w = .ok (.int .i32 x) w := fun x y w => by
    simp [part, isAgg, run_underlying Tryd.underlying21]
  have p1 : ∀ (x y : Int) (w : World), (part 21 #[.int .i32 x, .int .i32 y] 1).run Tryd.prog w = .ok (.int .i32 y) w := fun x y w => by
    simp [part, isAgg, run_underlying Tryd.underlying21]
  have e0 : ∀ (x y : Int) (w : World), (Op.equalIn 9999 21 (.int .i32 x) (.int .i32 y)).run Tryd.prog w = .ok (x == y) w := fun x y w => run_equalIn_int w 9998 _ .i32 .i32 x y Tryd.underlying21
  rw [hc]
  show (Op.eqItems 9999 21 1 _ _ [0, 1]).run _ _ = _
  simp only [Op.eqItems, Sem.run_bind, p0, e0, Result.andThen_ok, Nat.zero_mul]
  cases h : a == c <;> cases h' : b == d <;> simp [p1, e0, h']
theorem guard_pair : Tryd.prog.eqGuardType Tryd.prog.depth 30 = false := by kernel_rfl

set_option maxHeartbeats 1000000 in
theorem RSame_any (l : List (Int × Int)) (n : Nat) (hn : l.length = n) (hl : n ≤ 1000) (b1 b2 c1 c2 : Nat) (w : World) (h1 : Rg w b1 l) (h2 : Rg w b2 l) :
    Calls Tryd.prog 12 #[.slice (some ⟨b1, 0, none⟩) n c1, .slice (some ⟨b2, 0, none⟩) n c2] w fun e w' => e = .returned (.bool true) ∧ New w w' := by
  have H1 := Lib.hid h1
  have H2 := Lib.hid h2
  have HL := Lib.hid hn
  clear h1 h2 hn
  go_enter Tryd.func12, Tryd.ntmps12
  go_wp2
  go_loopw [5] (fun i wr => ∃ k : Nat, k ≤ n ∧ i = .int .i64 k ∧ New w wr) (fun i _ => n - (intOf i).toNat)
  case atStart => exact ⟨0, by omega, rfl, Fr.refl _ _⟩
  case round =>
    obtain ⟨k, hk, rfl, hnew⟩ := hrel
    have HW := Lib.hid hnew
    clear hnew
    by_cases hlt : k < n
    · have a1 := ((H1.out.new HW.out).2 k (by rw [HL.out]; exact hlt)).1
      have a2 := ((H1.out.new HW.out).2 k (by rw [HL.out]; exact hlt)).2
      have a3 := ((H2.out.new HW.out).2 k (by rw [HL.out]; exact hlt)).1
      have a4 := ((H2.out.new HW.out).2 k (by rw [HL.out]; exact hlt)).2
      have j1 : (k : Int) < (n : Int) := by omega
      go_wp2_with fail
      have heq : ∀ (a b : Int) (W : World), (Op.equalIn 10000 30 (.agg #[.int .i32 a, .int .i32 b]) (.agg #[.int .i32 a, .int .i32 b])).run Tryd.prog W = .ok true W := fun a b W => by rw [eq_pair]; simp
      have hgp := guard_pair
      go_quiet (fail)
      go_wp2
      go_roundw
      case rel => exact ⟨k + 1, by omega, by go_num, HW.out.drewN _⟩
      case measure => simp [intOf]; omega
    · have j1 : ¬ (k : Int) < (n : Int) := by omega
      go_wp2
      go_ret
      exact ⟨rfl, HW.out⟩

end Go.Proofs.YtlfhoiamacbfhaaDoor
