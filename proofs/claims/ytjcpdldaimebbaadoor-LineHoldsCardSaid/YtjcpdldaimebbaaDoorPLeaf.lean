/-
  The walks of the program's small functions on colors.
-/
import Derived.Test.YtjcpdldaimebbaaDoorRows
import Derived.Test.YtjcpdldaimebbaaDoorBase
import Derived.Test.YtjcpdldaimebbaaDoorPMath
import Derived.Test.YtjcpdldaimebbaaDoorWLeaf
import Derived.RegionTactic
import Derived.BigRegion
import Derived.BigQuiet
import Derived.Laws.StructEq
import Derived.ChangeKeysEq
import Derived.Deep.RegionHeld3
import Derived.Deep.RegionWith
import Derived.Deep.DeepMust
import Derived.Outline
namespace Go.Proofs.YtjcpdldaimebbaaDoor
open Go.RowKit


theorem Fr.of_drew {S : Nat → Prop} {a b : World} (h : Fr S a.drew b) : Fr S a b := ⟨h.os, h.tape, h.output, h.size, h.block⟩
abbrev Co.v (c : Co) : Value := .agg #[.int .i64 c.k, .int .u8 c.i, .int .u8 c.r, .int .u8 c.g, .int .u8 c.b]
abbrev Pn.v (p : Pn) : Value := .agg #[.int .i64 p.fore.k, .int .u8 p.fore.i, .int .u8 p.fore.r, .int .u8 p.fore.g, .int .u8 p.fore.b, .int .i64 p.back.k, .int .u8 p.back.i, .int .u8 p.back.r, .int .u8 p.back.g, .int .u8 p.back.b, .int .u8 p.fl]

theorem und24 : Tryd.prog.underlying 55 = some (.struct (Tryd.prog.fieldsOf 55)) := by kernel_rfl
theorem und27 : Tryd.prog.underlying 58 = some (.struct (Tryd.prog.fieldsOf 58)) := by kernel_rfl
theorem held24 : Tryd.prog.stoodInHeld 55 = false := by kernel_rfl
theorem held27 : Tryd.prog.stoodInHeld 58 = false := by kernel_rfl
theorem fields24 : (Tryd.prog.fieldsOf 55).toList.map (fun f => (f.name, f.type, f.offset)) = [("Kind", 53, 0), ("Index", 5, 1), ("R", 5, 2), ("G", 5, 3), ("B", 5, 4)] := by kernel_rfl
theorem fields27 : (Tryd.prog.fieldsOf 58).toList.map (fun f => (f.name, f.type, f.offset)) = [("Fore", 55, 0), ("Back", 55, 5), ("Flags", 56, 10)] := by kernel_rfl
theorem cells5 : Tryd.prog.cellsOf 55 = 5 := by kernel_rfl
theorem guard24 : Tryd.prog.eqGuardType Tryd.prog.depth 55 = false := by kernel_rfl
theorem guard27 : Tryd.prog.eqGuardType Tryd.prog.depth 58 = false := by kernel_rfl

section
variable {α β : Type} (g : α → β)
theorem parts5 (l : List α) {b0 b1 b2 b3 b4 : β} (h : l.map g = [b0, b1, b2, b3, b4]) : ∃ a0 a1 a2 a3 a4, l = [a0, a1, a2, a3, a4] ∧ g a0 = b0 ∧ g a1 = b1 ∧ g a2 = b2 ∧ g a3 = b3 ∧ g a4 = b4 := by
  match l, h with
  | [a0, a1, a2, a3, a4], h => simp at h; exact ⟨a0, a1, a2, a3, a4, rfl, h⟩
theorem parts3 (l : List α) {b0 b1 b2 : β} (h : l.map g = [b0, b1, b2]) : ∃ a0 a1 a2, l = [a0, a1, a2] ∧ g a0 = b0 ∧ g a1 = b1 ∧ g a2 = b2 := by
  match l, h with
  | [a0, a1, a2], h => simp at h; exact ⟨a0, a1, a2, rfl, h⟩
end

theorem eqFields_cons (d : Nat) (xs ys : Array Value) (f : Field) (fs : List Field) {n : String} {t o : Nat} (h : (f.name, f.type, f.offset) = (n, t, o)) (hn : n ≠ "_") (a b : Value) (r : Bool) (w : World)
    (ha : (part t xs o).run Tryd.prog w = .ok a w) (hb : (part t ys o).run Tryd.prog w = .ok b w) (he : (Op.equalIn d t a b).run Tryd.prog w = .ok r w) :
    (Op.eqFields d xs ys (f :: fs)).run Tryd.prog w = if r = true then (Op.eqFields d xs ys fs).run Tryd.prog w else .ok false w := by
  simp only [Prod.mk.injEq] at h
  obtain ⟨h1, h2, h3⟩ := h
  simp only [Op.eqFields, h1, h2, h3, ne_eq, hn, not_false_eq_true, if_true, Sem.run_bind, ha, hb, he, Result.andThen_ok]
  cases r <;> simp

theorem part_int {t : Nat} {k : IntKind} (hu : Tryd.prog.underlying t = some (.int k)) (xs : Array Value) (o : Nat) (v : Value) (h : xs[o]? = some v) (w : World) : (part t xs o).run Tryd.prog w = .ok v w := by
  simp [part, isAgg, run_underlying hu, h]

theorem eq_col (n : Nat) (c d : Co) (w : World) : (Op.equalIn (n + 2) 55 c.v d.v).run Tryd.prog w = .ok (decide (c = d)) w := by
  obtain ⟨f0, f1, f2, f3, f4, hl, h0, h1, h2, h3, h4⟩ := parts5 _ _ fields24
  rw [run_equalIn_agg w (n + 1) 55 _ _ und24 held24, hl]
  have pk := fun xs o v h => part_int Tryd.underlying53 xs o v h w
  have pu := fun xs o v h => part_int Tryd.underlying5 xs o v h w
  have ek := fun a b => run_equalIn_int (P := Tryd.prog) w n 53 .i64 .i64 a b Tryd.underlying53
  have eu := fun a b => run_equalIn_int (P := Tryd.prog) w n 5 .u8 .u8 a b Tryd.underlying5
  rw [eqFields_cons _ _ _ f0 _ h0 (by decide) _ _ _ w (pk _ 0 _ rfl) (pk _ 0 _ rfl) (ek _ _),
    eqFields_cons _ _ _ f1 _ h1 (by decide) _ _ _ w (pu _ 1 _ rfl) (pu _ 1 _ rfl) (eu _ _),
    eqFields_cons _ _ _ f2 _ h2 (by decide) _ _ _ w (pu _ 2 _ rfl) (pu _ 2 _ rfl) (eu _ _),
    eqFields_cons _ _ _ f3 _ h3 (by decide) _ _ _ w (pu _ 3 _ rfl) (pu _ 3 _ rfl) (eu _ _),
    eqFields_cons _ _ _ f4 _ h4 (by decide) _ _ _ w (pu _ 4 _ rfl) (pu _ 4 _ rfl) (eu _ _)]
  simp only [Op.eqFields, Sem.run_pure]
  obtain ⟨a0, a1, a2, a3, a4⟩ := c
  obtain ⟨b0, b1, b2, b3, b4⟩ := d
  simp only [Co.mk.injEq, beq_iff_eq]
  split <;> rename_i e0
  · split <;> rename_i e1
    · split <;> rename_i e2
      · split <;> rename_i e3
        · split <;> rename_i e4
          · simp [e0, e1, e2, e3, e4]
          · simp [e4]
        · simp [e3]
      · simp [e2]
    · simp [e1]
  · simp [e0]
theorem isAgg24 (w : World) : (isAgg 55).run Tryd.prog w = .ok true w := by simp [isAgg, run_underlying und24]
theorem part_col (xs : Array Value) (o : Nat) (w : World) : (part 55 xs o).run Tryd.prog w = .ok (.agg (xs.extract o (o + 5))) w := by
  obtain ⟨i, hi⟩ := info_of_underlying und24
  simp only [part, Sem.run_bind, isAgg24, Result.andThen_ok, if_true, run_sizeOf w hi, cells5, Sem.run_pure]
theorem eq_pen (n : Nat) (p q : Pn) (w : World) : (Op.equalIn (n + 3) 58 p.v q.v).run Tryd.prog w = .ok (decide (p = q)) w := by
  obtain ⟨f0, f1, f2, hl, h0, h1, h2⟩ := parts3 _ _ fields27
  rw [run_equalIn_agg w (n + 2) 58 _ _ und27 held27, hl]
  have pu := fun xs o v h => part_int Tryd.underlying56 xs o v h w
  have eu := fun a b => run_equalIn_int (P := Tryd.prog) w (n + 1) 56 .u8 .u8 a b Tryd.underlying56
  have c0 : ∀ p : Pn, (part 55 #[.int .i64 p.fore.k, .int .u8 p.fore.i, .int .u8 p.fore.r, .int .u8 p.fore.g, .int .u8 p.fore.b, .int .i64 p.back.k, .int .u8 p.back.i, .int .u8 p.back.r, .int .u8 p.back.g, .int .u8 p.back.b, .int .u8 p.fl] 0).run Tryd.prog w = .ok p.fore.v w := fun p => part_col _ _ _
  have c5 : ∀ p : Pn, (part 55 #[.int .i64 p.fore.k, .int .u8 p.fore.i, .int .u8 p.fore.r, .int .u8 p.fore.g, .int .u8 p.fore.b, .int .i64 p.back.k, .int .u8 p.back.i, .int .u8 p.back.r, .int .u8 p.back.g, .int .u8 p.back.b, .int .u8 p.fl] 5).run Tryd.prog w = .ok p.back.v w := fun p => part_col _ _ _
  rw [eqFields_cons _ _ _ f0 _ h0 (by decide) _ _ _ w (c0 p) (c0 q) (eq_col n _ _ _),
    eqFields_cons _ _ _ f1 _ h1 (by decide) _ _ _ w (c5 p) (c5 q) (eq_col n _ _ _),
    eqFields_cons _ _ _ f2 _ h2 (by decide) _ _ _ w (pu _ 10 _ rfl) (pu _ 10 _ rfl) (eu _ _)]
  simp only [Op.eqFields, Sem.run_pure]
  obtain ⟨a0, a1, a2⟩ := p
  obtain ⟨b0, b1, b2⟩ := q
  simp only [Pn.mk.injEq, beq_iff_eq, decide_eq_true_eq]
  split <;> rename_i e0
  · split <;> rename_i e1
    · split <;> rename_i e2
      · simp [e0, e1, e2]
      · simp [e2]
    · simp [e1]
  · simp [e0]

theorem Blk.five {w : World} {g : Nat} {t : TypeId} {a b c d e : Value} (B : Blk w g t #[a, b, c, d, e]) :
    w.cell? ⟨g, 0, none⟩ = some a ∧ w.cell? ⟨g, 1, none⟩ = some b ∧ w.cell? ⟨g, 2, none⟩ = some c ∧ w.cell? ⟨g, 3, none⟩ = some d ∧ w.cell? ⟨g, 4, none⟩ = some e :=
  ⟨B.cell 0, B.cell 1, B.cell 2, B.cell 3, B.cell 4⟩
theorem Blk.eleven {w : World} {g : Nat} {t : TypeId} {a b c d e f h i j k l : Value} (B : Blk w g t #[a, b, c, d, e, f, h, i, j, k, l]) :
    w.cell? ⟨g, 0, none⟩ = some a ∧ w.cell? ⟨g, 1, none⟩ = some b ∧ w.cell? ⟨g, 2, none⟩ = some c ∧ w.cell? ⟨g, 3, none⟩ = some d ∧ w.cell? ⟨g, 4, none⟩ = some e ∧
    w.cell? ⟨g, 5, none⟩ = some f ∧ w.cell? ⟨g, 6, none⟩ = some h ∧ w.cell? ⟨g, 7, none⟩ = some i ∧ w.cell? ⟨g, 8, none⟩ = some j ∧ w.cell? ⟨g, 9, none⟩ = some k ∧ w.cell? ⟨g, 10, none⟩ = some l :=
  ⟨B.cell 0, B.cell 1, B.cell 2, B.cell 3, B.cell 4, B.cell 5, B.cell 6, B.cell 7, B.cell 8, B.cell 9, B.cell 10⟩
theorem Blk.free {w : World} {g : Nat} {t : TypeId} {cs : Array Value} (B : Blk w g t cs) : ∀ i, w.frozen? ⟨g, i, none⟩ = false := fun i => B.frozen i

theorem Blk.set5 {w : World} {g : Nat} {t : TypeId} {y0 y1 y2 y3 y4 : Value} (B : Blk w g t #[y0, y1, y2, y3, y4]) (x0 x1 x2 x3 x4 : Value) :
    Blk (((((w.setCell ⟨g, 0, none⟩ x0).setCell ⟨g, 1, none⟩ x1).setCell ⟨g, 2, none⟩ x2).setCell ⟨g, 3, none⟩ x3).setCell ⟨g, 4, none⟩ x4) g t #[x0, x1, x2, x3, x4] := by
  have := (((((B.set 0 x0).set 1 x1).set 2 x2).set 3 x3).set 4 x4)
  simpa using this
theorem Fr.set5 {S : Nat → Prop} {a w : World} {g : Nat} (h : Fr S a w) (hp : S g ∨ a.heap.size ≤ g) (x0 x1 x2 x3 x4 : Value) : Fr S a (((((w.setCell ⟨g, 0, none⟩ x0).setCell ⟨g, 1, none⟩ x1).setCell ⟨g, 2, none⟩ x2).setCell ⟨g, 3, none⟩ x3).setCell ⟨g, 4, none⟩ x4) :=
  (((((h.setCell (p := ⟨g, 0, none⟩) hp x0).setCell (p := ⟨g, 1, none⟩) hp x1).setCell (p := ⟨g, 2, none⟩) hp x2).setCell (p := ⟨g, 3, none⟩) hp x3).setCell (p := ⟨g, 4, none⟩) hp x4)
theorem Blk.set11 {w : World} {g : Nat} {t : TypeId} {y0 y1 y2 y3 y4 y5 y6 y7 y8 y9 y10 : Value} (B : Blk w g t #[y0, y1, y2, y3, y4, y5, y6, y7, y8, y9, y10]) (x0 x1 x2 x3 x4 x5 x6 x7 x8 x9 x10 : Value) :
    Blk (((((((((((w.setCell ⟨g, 0, none⟩ x0).setCell ⟨g, 1, none⟩ x1).setCell ⟨g, 2, none⟩ x2).setCell ⟨g, 3, none⟩ x3).setCell ⟨g, 4, none⟩ x4).setCell ⟨g, 5, none⟩ x5).setCell ⟨g, 6, none⟩ x6).setCell ⟨g, 7, none⟩ x7).setCell ⟨g, 8, none⟩ x8).setCell ⟨g, 9, none⟩ x9).setCell ⟨g, 10, none⟩ x10) g t #[x0, x1, x2, x3, x4, x5, x6, x7, x8, x9, x10] := by
  have := (((((((((((B.set 0 x0).set 1 x1).set 2 x2).set 3 x3).set 4 x4).set 5 x5).set 6 x6).set 7 x7).set 8 x8).set 9 x9).set 10 x10)
  simpa using this
theorem Fr.set11 {S : Nat → Prop} {a w : World} {g : Nat} (h : Fr S a w) (hp : S g ∨ a.heap.size ≤ g) (x0 x1 x2 x3 x4 x5 x6 x7 x8 x9 x10 : Value) : Fr S a (((((((((((w.setCell ⟨g, 0, none⟩ x0).setCell ⟨g, 1, none⟩ x1).setCell ⟨g, 2, none⟩ x2).setCell ⟨g, 3, none⟩ x3).setCell ⟨g, 4, none⟩ x4).setCell ⟨g, 5, none⟩ x5).setCell ⟨g, 6, none⟩ x6).setCell ⟨g, 7, none⟩ x7).setCell ⟨g, 8, none⟩ x8).setCell ⟨g, 9, none⟩ x9).setCell ⟨g, 10, none⟩ x10) :=
  (((((((((((h.setCell (p := ⟨g, 0, none⟩) hp x0).setCell (p := ⟨g, 1, none⟩) hp x1).setCell (p := ⟨g, 2, none⟩) hp x2).setCell (p := ⟨g, 3, none⟩) hp x3).setCell (p := ⟨g, 4, none⟩) hp x4).setCell (p := ⟨g, 5, none⟩) hp x5).setCell (p := ⟨g, 6, none⟩) hp x6).setCell (p := ⟨g, 7, none⟩) hp x7).setCell (p := ⟨g, 8, none⟩) hp x8).setCell (p := ⟨g, 9, none⟩) hp x9).setCell (p := ⟨g, 10, none⟩) hp x10)

set_option maxHeartbeats 400000 in
theorem Index_any (n : Int) (w : World) :
    Calls Tryd.prog 80 #[.int .u8 n] w fun e w' => e = .returned (.agg #[.int .i64 1, .int .u8 n, .int .u8 0, .int .u8 0, .int .u8 0]) ∧ New w w' := by
  go_enter Tryd.func80, Tryd.ntmps80
  go_wp2
  refine bodyPost_ret (v := .agg #[.int .i64 1, .int .u8 n, .int .u8 0, .int .u8 0, .int .u8 0]) (by simp [results, Tryd.results80, go_sem]) rfl ?_
  exact ⟨rfl, New.alloc _⟩
set_option maxHeartbeats 400000 in
theorem True_any (r g b : Int) (w : World) :
    Calls Tryd.prog 81 #[.int .u8 r, .int .u8 g, .int .u8 b] w fun e w' => e = .returned (.agg #[.int .i64 2, .int .u8 0, .int .u8 r, .int .u8 g, .int .u8 b]) ∧ New w w' := by
  go_enter Tryd.func81, Tryd.ntmps81
  go_wp2
  refine bodyPost_ret (v := .agg #[.int .i64 2, .int .u8 0, .int .u8 r, .int .u8 g, .int .u8 b]) (by simp [results, Tryd.results81, go_sem]) rfl ?_
  exact ⟨rfl, New.alloc _⟩

set_option maxHeartbeats 400000 in
theorem RColor_any (c : Co) (w : World) :
    Calls Tryd.prog 75 #[c.v] w fun e w' => e = .returned (.bool (colB c)) ∧ New w w' := by
  obtain ⟨k, i, r, g, b⟩ := c
  by_cases hr : r = 0
  · by_cases hg : g = 0
    · by_cases hb : b = 0
      · subst hr hg hb
        by_cases hi : i = 0
        · subst hi
          go_enter Tryd.func75, Tryd.ntmps75
          go_wp2
          all_goals
            go_ret
            refine ⟨ret_bool ?_, New.alloc _⟩
            simp_all [colB] <;> (rw [Bool.eq_iff_iff]; simp)
        · have di : (i == 0) = false := by simpa using hi
          go_enter Tryd.func75, Tryd.ntmps75
          go_wp2
          all_goals
            go_ret
            refine ⟨ret_bool ?_, New.alloc _⟩
            simp_all [colB] <;> (rw [Bool.eq_iff_iff]; simp)
      · have db : (b == 0) = false := by simpa using hb
        subst hr hg
        go_enter Tryd.func75, Tryd.ntmps75
        go_wp2
        all_goals
          go_ret
          refine ⟨ret_bool ?_, New.alloc _⟩
          simp_all [colB] <;> (rw [Bool.eq_iff_iff]; simp)
    · have dg : (g == 0) = false := by simpa using hg
      subst hr
      go_enter Tryd.func75, Tryd.ntmps75
      go_wp2
      all_goals
        go_ret
        refine ⟨ret_bool ?_, New.alloc _⟩
        simp_all [colB] <;> (rw [Bool.eq_iff_iff]; simp)
  · have dr : (r == 0) = false := by simpa using hr
    go_enter Tryd.func75, Tryd.ntmps75
    go_wp2
    all_goals
      go_ret
      refine ⟨ret_bool ?_, New.alloc _⟩
      simp_all [colB] <;> (rw [Bool.eq_iff_iff]; simp)

set_option maxHeartbeats 800000 in
theorem ValidColor_any (c : Co) (w : World) :
    Calls Tryd.prog 71 #[c.v] w fun e w' => e = .returned (.bool (colB c)) ∧ New w w' := by
  have hz : ∀ w, (Op.equalIn 10000 55 (.agg #[.int .i64 c.k, .int .u8 c.i, .int .u8 c.r, .int .u8 c.g, .int .u8 c.b]) (.agg #[.int .i64 0, .int .u8 0, .int .u8 0, .int .u8 0, .int .u8 0])).run Tryd.prog w = .ok (decide (c = zeroC)) w := fun w => eq_col 9998 c zeroC w
  have hi : ∀ w, (Op.equalIn 10000 55 (.agg #[.int .i64 c.k, .int .u8 c.i, .int .u8 c.r, .int .u8 c.g, .int .u8 c.b]) (.agg #[.int .i64 1, .int .u8 c.i, .int .u8 0, .int .u8 0, .int .u8 0])).run Tryd.prog w = .ok (decide (c = ⟨1, c.i, 0, 0, 0⟩)) w := fun w => eq_col 9998 c ⟨1, c.i, 0, 0, 0⟩ w
  have ht : ∀ w, (Op.equalIn 10000 55 (.agg #[.int .i64 c.k, .int .u8 c.i, .int .u8 c.r, .int .u8 c.g, .int .u8 c.b]) (.agg #[.int .i64 2, .int .u8 0, .int .u8 c.r, .int .u8 c.g, .int .u8 c.b])).run Tryd.prog w = .ok (decide (c = ⟨2, 0, c.r, c.g, c.b⟩)) w := fun w => eq_col 9998 c ⟨2, 0, c.r, c.g, c.b⟩ w
  have gd := guard24
  by_cases h0 : c.k = 0
  · have j0 : (c.k == 0) = true := by simpa using h0
    have HK := Lib.hid h0
    clear h0
    go_enter Tryd.func71, Tryd.ntmps71
    go_wp2
    go_ret
    refine ⟨ret_bool ?_, New.alloc _⟩
    have h0 := HK.out
    obtain ⟨k, i, r, g, b⟩ := c
    simp_all [colB]
  · have j0 : (c.k == 0) = false := by simpa using h0
    have HK := Lib.hid h0
    clear h0
    by_cases h1 : c.k = 1
    · have j1 : (c.k == 1) = true := by simpa using h1
      have HK1 := Lib.hid h1
      clear h1
      go_enter Tryd.func71, Tryd.ntmps71
      go_wp2
      have B0 := Blk.new w 55 #[.int .i64 c.k, .int .u8 c.i, .int .u8 c.r, .int .u8 c.g, .int .u8 c.b]
      have N0 : New w (w.alloc (.cells #[.int .i64 c.k, .int .u8 c.i, .int .u8 c.r, .int .u8 c.g, .int .u8 c.b] 55)) := New.alloc _
      generalize w.alloc (.cells #[.int .i64 c.k, .int .u8 c.i, .int .u8 c.r, .int .u8 c.g, .int .u8 c.b] 55) = W at *
      generalize w.heap.size = g at *
      have d0 := B0.cell 0
      have d1 := B0.cell 1
      have d2 := B0.cell 2
      have d3 := B0.cell 3
      have d4 := B0.cell 4
      simp only [List.getElem?_toArray, List.getElem?_cons_zero, List.getElem?_cons_succ] at d0 d1 d2 d3 d4
      have HB := Lib.hid B0
      have HN := Lib.hid N0
      clear B0 N0
      go_region_held3 (fun w' => w'.cell? ⟨g, 0, none⟩ = some (.int .i64 c.k) ∧ w'.cell? ⟨g, 1, none⟩ = some (.int .u8 c.i) ∧ w'.cell? ⟨g, 2, none⟩ = some (.int .u8 c.r) ∧ w'.cell? ⟨g, 3, none⟩ = some (.int .u8 c.g) ∧ w'.cell? ⟨g, 4, none⟩ = some (.int .u8 c.b)) (first | go_keep | exact ⟨d0', d1', d2', d3', d4'⟩) (first | (go_at_call 80; refine ((Index_any c.i _)).mono ?_; rintro e w2 ⟨rfl, hn⟩; have HN2 := Lib.hid hn.of_drew; clear hn; have B2 := HB.out.fr HN2.out (fun h => h); have d0' := B2.cell 0; have d1' := B2.cell 1; have d2' := B2.cell 2; have d3' := B2.cell 3; have d4' := B2.cell 4; clear B2; simp only [List.getElem?_toArray, List.getElem?_cons_zero, List.getElem?_cons_succ] at d0' d1' d2' d3' d4'))
      all_goals
        first | go_wp2 | skip
        go_ret
        exact ⟨ret_bool (by
          have h1 := HK1.out
          obtain ⟨k, i, r, g, b⟩ := c
          simp_all [colB]), HN.out.trans HN2.out⟩
    · have j1 : (c.k == 1) = false := by simpa using h1
      have HK1 := Lib.hid h1
      clear h1
      by_cases h2 : c.k = 2
      · have j2 : (c.k == 2) = true := by simpa using h2
        have HK2 := Lib.hid h2
        clear h2
        go_enter Tryd.func71, Tryd.ntmps71
        go_wp2
        have B0 := Blk.new w 55 #[.int .i64 c.k, .int .u8 c.i, .int .u8 c.r, .int .u8 c.g, .int .u8 c.b]
        have N0 : New w (w.alloc (.cells #[.int .i64 c.k, .int .u8 c.i, .int .u8 c.r, .int .u8 c.g, .int .u8 c.b] 55)) := New.alloc _
        generalize w.alloc (.cells #[.int .i64 c.k, .int .u8 c.i, .int .u8 c.r, .int .u8 c.g, .int .u8 c.b] 55) = W at *
        generalize w.heap.size = g at *
        have d0 := B0.cell 0
        have d1 := B0.cell 1
        have d2 := B0.cell 2
        have d3 := B0.cell 3
        have d4 := B0.cell 4
        simp only [List.getElem?_toArray, List.getElem?_cons_zero, List.getElem?_cons_succ] at d0 d1 d2 d3 d4
        have HB := Lib.hid B0
        have HN := Lib.hid N0
        clear B0 N0
        go_region_held3 (fun w' => w'.cell? ⟨g, 0, none⟩ = some (.int .i64 c.k) ∧ w'.cell? ⟨g, 1, none⟩ = some (.int .u8 c.i) ∧ w'.cell? ⟨g, 2, none⟩ = some (.int .u8 c.r) ∧ w'.cell? ⟨g, 3, none⟩ = some (.int .u8 c.g) ∧ w'.cell? ⟨g, 4, none⟩ = some (.int .u8 c.b)) (first | go_keep | exact ⟨d0', d1', d2', d3', d4'⟩) (first | (go_at_call 81; refine ((True_any c.r c.g c.b _)).mono ?_; rintro e w2 ⟨rfl, hn⟩; have HN2 := Lib.hid hn.of_drew; clear hn; have B2 := HB.out.fr HN2.out (fun h => h); have d0' := B2.cell 0; have d1' := B2.cell 1; have d2' := B2.cell 2; have d3' := B2.cell 3; have d4' := B2.cell 4; clear B2; simp only [List.getElem?_toArray, List.getElem?_cons_zero, List.getElem?_cons_succ] at d0' d1' d2' d3' d4'))
        all_goals
          first | go_wp2 | skip
          go_ret
          exact ⟨ret_bool (by
            have h2 := HK2.out
            obtain ⟨k, i, r, g, b⟩ := c
            simp_all [colB]), HN.out.trans HN2.out⟩
      · have j2 : (c.k == 2) = false := by simpa using h2
        have HK2 := Lib.hid h2
        clear h2
        go_enter Tryd.func71, Tryd.ntmps71
        go_wp2
        go_ret
        refine ⟨ret_bool ?_, New.alloc _⟩
        unfold colB
        rw [if_neg HK.out, if_neg HK1.out, if_neg HK2.out]

end Go.Proofs.YtjcpdldaimebbaaDoor
