/-
  Cells as values: what a block or a slice of them holds, and when two are equal.
-/
import Derived.Test.YtjcpdldaimebbaaDoorPValid
import Derived.Test.YtjcpdldaimebbaaDoorCMath
namespace Go.Proofs.YtjcpdldaimebbaaDoor
open Go.RowKit

abbrev Ce.cs (c : Ce) : Array Value := #[.int .i32 c.r, .int .i32 c.m0, .int .i32 c.m1, .int .i32 c.m2, .int .i64 c.wd, .int .i64 c.p.fore.k, .int .u8 c.p.fore.i, .int .u8 c.p.fore.r, .int .u8 c.p.fore.g, .int .u8 c.p.fore.b, .int .i64 c.p.back.k, .int .u8 c.p.back.i, .int .u8 c.p.back.r, .int .u8 c.p.back.g, .int .u8 c.p.back.b, .int .u8 c.p.fl]
abbrev Ce.v (c : Ce) : Value := .agg c.cs
def Ce.ls (c : Ce) : List Value := [.int .i32 c.r, .int .i32 c.m0, .int .i32 c.m1, .int .i32 c.m2, .int .i64 c.wd, .int .i64 c.p.fore.k, .int .u8 c.p.fore.i, .int .u8 c.p.fore.r, .int .u8 c.p.fore.g, .int .u8 c.p.fore.b, .int .i64 c.p.back.k, .int .u8 c.p.back.i, .int .u8 c.p.back.r, .int .u8 c.p.back.g, .int .u8 c.p.back.b, .int .u8 c.p.fl]

theorem undC : Tryd.prog.underlying 60 = some (.struct (Tryd.prog.fieldsOf 60)) := by kernel_rfl
theorem heldC : Tryd.prog.stoodInHeld 60 = false := by kernel_rfl
theorem guardC : Tryd.prog.eqGuardType Tryd.prog.depth 60 = false := by kernel_rfl
theorem fieldsC : (Tryd.prog.fieldsOf 60).toList.map (fun f => (f.name, f.type, f.offset)) = [("Rune", 21, 0), ("Marks", 52, 1), ("Width", 3, 4), ("Pen", 58, 5)] := by kernel_rfl
theorem cells16 : Tryd.prog.cellsOf 60 = 16 := by kernel_rfl
theorem cells11p : Tryd.prog.cellsOf 58 = 11 := by kernel_rfl
theorem cells3m : Tryd.prog.cellsOf 52 = 3 := by kernel_rfl
theorem cells1r : Tryd.prog.cellsOf 21 = 1 := by kernel_rfl

theorem parts4 {α β : Type} (g : α → β) (l : List α) {b0 b1 b2 b3 : β} (h : l.map g = [b0, b1, b2, b3]) : ∃ a0 a1 a2 a3, l = [a0, a1, a2, a3] ∧ g a0 = b0 ∧ g a1 = b1 ∧ g a2 = b2 ∧ g a3 = b3 := by
  match l, h with
  | [a0, a1, a2, a3], h => simp at h; exact ⟨a0, a1, a2, a3, rfl, h⟩

theorem part_agg {t n : Nat} (hu : ∀ w, (isAgg t).run Tryd.prog w = .ok true w) (hi : ∃ i, Tryd.prog.info? t = some i) (hn : Tryd.prog.cellsOf t = n) (xs : Array Value) (o : Nat) (w : World) : (part t xs o).run Tryd.prog w = .ok (.agg (xs.extract o (o + n))) w := by
  obtain ⟨i, hi⟩ := hi
  simp only [part, Sem.run_bind, hu, Result.andThen_ok, if_true, run_sizeOf w hi, hn, Sem.run_pure]
theorem agg_pen (w : World) : (isAgg 58).run Tryd.prog w = .ok true w := by simp [isAgg, run_underlying und27]
theorem agg_marks (w : World) : (isAgg 52).run Tryd.prog w = .ok true w := by simp [isAgg, run_underlying Tryd.underlying52]

theorem eq_marks (n : Nat) (a b c d e f : Int) (w : World) : (Op.equalIn (n + 2) 52 (.agg #[.int .i32 a, .int .i32 b, .int .i32 c]) (.agg #[.int .i32 d, .int .i32 e, .int .i32 f])).run Tryd.prog w = .ok (a == d && b == e && c == f) w := by
  obtain ⟨i, hi⟩ := info_of_underlying Tryd.underlying21
  have h1 := run_equalIn_array w (n + 1) #[.int .i32 a, .int .i32 b, .int .i32 c] #[.int .i32 d, .int .i32 e, .int .i32 f] Tryd.underlying52 hi
  refine h1.trans ?_
  have p0 : ∀ (x y z : Int) (w : World), (part 21 #[.int .i32 x, .int .i32 y, .int .i32 z] 0).run Tryd.prog w = .ok (.int .i32 x) w := fun x y z w => part_int Tryd.underlying21 #[.int .i32 x, .int .i32 y, .int .i32 z] 0 _ rfl w
  have p1 : ∀ (x y z : Int) (w : World), (part 21 #[.int .i32 x, .int .i32 y, .int .i32 z] 1).run Tryd.prog w = .ok (.int .i32 y) w := fun x y z w => part_int Tryd.underlying21 #[.int .i32 x, .int .i32 y, .int .i32 z] 1 _ rfl w
  have p2 : ∀ (x y z : Int) (w : World), (part 21 #[.int .i32 x, .int .i32 y, .int .i32 z] 2).run Tryd.prog w = .ok (.int .i32 z) w := fun x y z w => part_int Tryd.underlying21 #[.int .i32 x, .int .i32 y, .int .i32 z] 2 _ rfl w
  have e0 : ∀ (x y : Int) (w : World), (Op.equalIn (n + 1) 21 (.int .i32 x) (.int .i32 y)).run Tryd.prog w = .ok (x == y) w := fun x y w => run_equalIn_int w n _ .i32 .i32 x y Tryd.underlying21
  rw [cells1r]
  show (Op.eqItems (n + 1) 21 1 _ _ [0, 1, 2]).run _ _ = _
  simp only [Op.eqItems, Sem.run_bind, p0, e0, Result.andThen_ok, Nat.zero_mul]
  cases h : a == d <;> cases h' : b == e <;> cases h'' : c == f <;> simp [p1, p2, e0, h', h'']

theorem eq_cell (c d : Ce) (w : World) : (Op.equalIn 10000 60 (.agg c.cs) (.agg d.cs)).run Tryd.prog w = .ok (decide (c = d)) w := by
  obtain ⟨f0, f1, f2, f3, hl, h0, h1, h2, h3⟩ := parts4 _ _ fieldsC
  rw [run_equalIn_agg w 9999 60 _ _ undC heldC, hl]
  have pr := fun xs o v h => part_int Tryd.underlying21 xs o v h w
  have pw := fun xs o v h => part_int Tryd.underlying3 xs o v h w
  have er := fun a b => run_equalIn_int (P := Tryd.prog) w 9998 21 .i32 .i32 a b Tryd.underlying21
  have ew := fun a b => run_equalIn_int (P := Tryd.prog) w 9998 3 .i64 .i64 a b Tryd.underlying3
  have pm : ∀ c : Ce, (part 52 #[.int .i32 c.r, .int .i32 c.m0, .int .i32 c.m1, .int .i32 c.m2, .int .i64 c.wd, .int .i64 c.p.fore.k, .int .u8 c.p.fore.i, .int .u8 c.p.fore.r, .int .u8 c.p.fore.g, .int .u8 c.p.fore.b, .int .i64 c.p.back.k, .int .u8 c.p.back.i, .int .u8 c.p.back.r, .int .u8 c.p.back.g, .int .u8 c.p.back.b, .int .u8 c.p.fl] 1).run Tryd.prog w = .ok (.agg #[.int .i32 c.m0, .int .i32 c.m1, .int .i32 c.m2]) w := fun c => part_agg agg_marks (info_of_underlying Tryd.underlying52) cells3m _ _ _
  have pp : ∀ c : Ce, (part 58 #[.int .i32 c.r, .int .i32 c.m0, .int .i32 c.m1, .int .i32 c.m2, .int .i64 c.wd, .int .i64 c.p.fore.k, .int .u8 c.p.fore.i, .int .u8 c.p.fore.r, .int .u8 c.p.fore.g, .int .u8 c.p.fore.b, .int .i64 c.p.back.k, .int .u8 c.p.back.i, .int .u8 c.p.back.r, .int .u8 c.p.back.g, .int .u8 c.p.back.b, .int .u8 c.p.fl] 5).run Tryd.prog w = .ok c.p.v w := fun c => part_agg agg_pen (info_of_underlying und27) cells11p _ _ _
  rw [eqFields_cons _ _ _ f0 _ h0 (by decide) _ _ _ w (pr _ 0 _ rfl) (pr _ 0 _ rfl) (er _ _),
    eqFields_cons _ _ _ f1 _ h1 (by decide) _ _ _ w (pm c) (pm d) (eq_marks 9997 _ _ _ _ _ _ w),
    eqFields_cons _ _ _ f2 _ h2 (by decide) _ _ _ w (pw _ 4 _ rfl) (pw _ 4 _ rfl) (ew _ _),
    eqFields_cons _ _ _ f3 _ h3 (by decide) _ _ _ w (pp c) (pp d) (eq_pen 9996 _ _ w)]
  simp only [Op.eqFields, Sem.run_pure]
  obtain ⟨a0, a1, a2, a3, a4, a5⟩ := c
  obtain ⟨b0, b1, b2, b3, b4, b5⟩ := d
  simp only [Ce.mk.injEq, beq_iff_eq, Bool.and_eq_true, decide_eq_true_eq]
  split <;> rename_i e0
  · split <;> rename_i e1
    · split <;> rename_i e2
      · split <;> rename_i e3
        · simp [e0, e1.1.1, e1.1.2, e1.2, e2, e3]
        · simp [e3]
      · simp [e2]
    · have : ¬ (a1 = b1 ∧ a2 = b2 ∧ a3 = b3 ∧ a4 = b4 ∧ a5 = b5) := fun h => e1 ⟨⟨h.1, h.2.1⟩, h.2.2.1⟩
      simp [this]
  · simp [e0]

theorem Blk.sixteen {w : World} {g : Nat} {t : TypeId} {y0 y1 y2 y3 y4 y5 y6 y7 y8 y9 y10 y11 y12 y13 y14 y15 : Value} (B : Blk w g t #[y0, y1, y2, y3, y4, y5, y6, y7, y8, y9, y10, y11, y12, y13, y14, y15]) :
    w.cell? ⟨g, 0, none⟩ = some y0 ∧ w.cell? ⟨g, 1, none⟩ = some y1 ∧ w.cell? ⟨g, 2, none⟩ = some y2 ∧ w.cell? ⟨g, 3, none⟩ = some y3 ∧ w.cell? ⟨g, 4, none⟩ = some y4 ∧ w.cell? ⟨g, 5, none⟩ = some y5 ∧ w.cell? ⟨g, 6, none⟩ = some y6 ∧ w.cell? ⟨g, 7, none⟩ = some y7 ∧ w.cell? ⟨g, 8, none⟩ = some y8 ∧ w.cell? ⟨g, 9, none⟩ = some y9 ∧ w.cell? ⟨g, 10, none⟩ = some y10 ∧ w.cell? ⟨g, 11, none⟩ = some y11 ∧ w.cell? ⟨g, 12, none⟩ = some y12 ∧ w.cell? ⟨g, 13, none⟩ = some y13 ∧ w.cell? ⟨g, 14, none⟩ = some y14 ∧ w.cell? ⟨g, 15, none⟩ = some y15 :=
  ⟨B.cell 0, B.cell 1, B.cell 2, B.cell 3, B.cell 4, B.cell 5, B.cell 6, B.cell 7, B.cell 8, B.cell 9, B.cell 10, B.cell 11, B.cell 12, B.cell 13, B.cell 14, B.cell 15⟩
theorem Blk.set16 {w : World} {g : Nat} {t : TypeId} {y0 y1 y2 y3 y4 y5 y6 y7 y8 y9 y10 y11 y12 y13 y14 y15 : Value} (B : Blk w g t #[y0, y1, y2, y3, y4, y5, y6, y7, y8, y9, y10, y11, y12, y13, y14, y15]) (x0 x1 x2 x3 x4 x5 x6 x7 x8 x9 x10 x11 x12 x13 x14 x15 : Value) :
    Blk ((((((((((((((((w.setCell ⟨g, 0, none⟩ x0).setCell ⟨g, 1, none⟩ x1).setCell ⟨g, 2, none⟩ x2).setCell ⟨g, 3, none⟩ x3).setCell ⟨g, 4, none⟩ x4).setCell ⟨g, 5, none⟩ x5).setCell ⟨g, 6, none⟩ x6).setCell ⟨g, 7, none⟩ x7).setCell ⟨g, 8, none⟩ x8).setCell ⟨g, 9, none⟩ x9).setCell ⟨g, 10, none⟩ x10).setCell ⟨g, 11, none⟩ x11).setCell ⟨g, 12, none⟩ x12).setCell ⟨g, 13, none⟩ x13).setCell ⟨g, 14, none⟩ x14).setCell ⟨g, 15, none⟩ x15) g t #[x0, x1, x2, x3, x4, x5, x6, x7, x8, x9, x10, x11, x12, x13, x14, x15] := by
  have := ((((((((((((((((B.set 0 x0).set 1 x1).set 2 x2).set 3 x3).set 4 x4).set 5 x5).set 6 x6).set 7 x7).set 8 x8).set 9 x9).set 10 x10).set 11 x11).set 12 x12).set 13 x13).set 14 x14).set 15 x15)
  simpa using this
theorem Fr.set16 {S : Nat → Prop} {a w : World} {g : Nat} (h : Fr S a w) (hp : S g ∨ a.heap.size ≤ g) (x0 x1 x2 x3 x4 x5 x6 x7 x8 x9 x10 x11 x12 x13 x14 x15 : Value) : Fr S a ((((((((((((((((w.setCell ⟨g, 0, none⟩ x0).setCell ⟨g, 1, none⟩ x1).setCell ⟨g, 2, none⟩ x2).setCell ⟨g, 3, none⟩ x3).setCell ⟨g, 4, none⟩ x4).setCell ⟨g, 5, none⟩ x5).setCell ⟨g, 6, none⟩ x6).setCell ⟨g, 7, none⟩ x7).setCell ⟨g, 8, none⟩ x8).setCell ⟨g, 9, none⟩ x9).setCell ⟨g, 10, none⟩ x10).setCell ⟨g, 11, none⟩ x11).setCell ⟨g, 12, none⟩ x12).setCell ⟨g, 13, none⟩ x13).setCell ⟨g, 14, none⟩ x14).setCell ⟨g, 15, none⟩ x15) :=
  ((((((((((((((((h.setCell (p := ⟨g, 0, none⟩) hp x0).setCell (p := ⟨g, 1, none⟩) hp x1).setCell (p := ⟨g, 2, none⟩) hp x2).setCell (p := ⟨g, 3, none⟩) hp x3).setCell (p := ⟨g, 4, none⟩) hp x4).setCell (p := ⟨g, 5, none⟩) hp x5).setCell (p := ⟨g, 6, none⟩) hp x6).setCell (p := ⟨g, 7, none⟩) hp x7).setCell (p := ⟨g, 8, none⟩) hp x8).setCell (p := ⟨g, 9, none⟩) hp x9).setCell (p := ⟨g, 10, none⟩) hp x10).setCell (p := ⟨g, 11, none⟩) hp x11).setCell (p := ⟨g, 12, none⟩) hp x12).setCell (p := ⟨g, 13, none⟩) hp x13).setCell (p := ⟨g, 14, none⟩) hp x14).setCell (p := ⟨g, 15, none⟩) hp x15)

end Go.Proofs.YtjcpdldaimebbaaDoor
