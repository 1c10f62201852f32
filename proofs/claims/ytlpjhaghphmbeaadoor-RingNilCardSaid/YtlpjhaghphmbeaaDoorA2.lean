/-
  Cells: which ones there are, rows, fixing; what follows from it.
  Cells as values: what a block or a slice of them holds, and when two are equal.
  Slices of cells.
-/
import Derived.Test.YtlpjhaghphmbeaaDoorA1
namespace Go.Proofs.YtlpjhaghphmbeaaDoor

structure Ce where
  r : Int
  m0 : Int
  m1 : Int
  m2 : Int
  wd : Int
  p : Pn
instance : DecidableEq Ce := fun a c => decidable_of_iff (a.r = c.r ∧ a.m0 = c.m0 ∧ a.m1 = c.m1 ∧ a.m2 = c.m2 ∧ a.wd = c.wd ∧ a.p = c.p) (by cases a; cases c; simp)
/-- The parts are what their types allow. -/
structure Ce.Ok (c : Ce) : Prop where
  r0 : -2147483648 ≤ c.r
  r1 : c.r ≤ 2147483647
  a0 : -2147483648 ≤ c.m0
  a1 : c.m0 ≤ 2147483647
  b0 : -2147483648 ≤ c.m1
  b1 : c.m1 ≤ 2147483647
  c0 : -2147483648 ≤ c.m2
  c1 : c.m2 ≤ 2147483647
  w0 : -9223372036854775808 ≤ c.wd
  w1 : c.wd ≤ 9223372036854775807
  p : c.p.Ok

abbrev zeroCe : Ce := ⟨0, 0, 0, 0, 0, zeroP⟩
abbrev spaceC (p : Pn) : Ce := ⟨0, 0, 0, 0, 0, p⟩

/-- How many marks a cell has from the front on, and whether all are right. -/
def nM (c : Ce) : Nat := if c.m0 = 0 then 0 else if c.m1 = 0 then 1 else if c.m2 = 0 then 2 else 3
def okM (c : Ce) : Bool :=
  if c.m0 = 0 then decide (c.m1 = 0) && decide (c.m2 = 0)
  else decide (ofI c.m0 = 0) && if c.m1 = 0 then decide (c.m2 = 0)
  else decide (ofI c.m1 = 0) && (decide (c.m2 = 0) || decide (ofI c.m2 = 0))
def cellB (c : Ce) : Bool :=
  validB c.p && okM c &&
    if c.wd = 0 then decide (c.r = 0) && decide (nM c = 0)
    else if c.wd = 1 then (decide (c.r = 0) && decide (nM c = 0)) || (decide (c.r ≠ 0) && decide (ofI c.r = 1))
    else if c.wd = 2 then decide (ofI c.r = 2) else false
def wideP (c : Ce) : Option Pn := if c.wd = 2 then some c.p else none
/-- A second half stands just behind a wide cell, with its pen. -/
def shB : Option Pn → List Ce → Bool
  | none, [] => true
  | some _, [] => false
  | none, c :: t => decide (c.wd ≠ 0) && shB (wideP c) t
  | some p, c :: t => decide (c = spaceC p) && shB (wideP c) t
def rowB (l : List Ce) : Bool := l.all cellB && shB none l
theorem of_zero : ofI 0 = -1 := by decide

theorem cell_space (p : Pn) (h : validB p = true) : cellB (spaceC p) = true := by simp [cellB, okM, nM, h]
theorem cell_pen {c : Ce} (h : cellB c = true) : validB c.p = true := by
  simp only [cellB, Bool.and_eq_true] at h
  exact h.1.1
theorem cell_wd {c : Ce} (h : cellB c = true) : c.wd = 0 ∨ c.wd = 1 ∨ c.wd = 2 := by
  simp only [cellB, Bool.and_eq_true] at h
  have := h.2
  split at this
  · omega
  · split at this
    · omega
    · split at this
      · omega
      · cases this

end Go.Proofs.YtlpjhaghphmbeaaDoor
namespace Go.Proofs.YtlpjhaghphmbeaaDoor
open Go.RowKit

abbrev Ce.cs (c : Ce) : Array Value := #[.int .i32 c.r, .int .i32 c.m0, .int .i32 c.m1, .int .i32 c.m2, .int .i64 c.wd, .int .i64 c.p.fore.k, .int .u8 c.p.fore.i, .int .u8 c.p.fore.r, .int .u8 c.p.fore.g, .int .u8 c.p.fore.b, .int .i64 c.p.back.k, .int .u8 c.p.back.i, .int .u8 c.p.back.r, .int .u8 c.p.back.g, .int .u8 c.p.back.b, .int .u8 c.p.fl]
abbrev Ce.v (c : Ce) : Value := .agg c.cs
def Ce.ls (c : Ce) : List Value := [.int .i32 c.r, .int .i32 c.m0, .int .i32 c.m1, .int .i32 c.m2, .int .i64 c.wd, .int .i64 c.p.fore.k, .int .u8 c.p.fore.i, .int .u8 c.p.fore.r, .int .u8 c.p.fore.g, .int .u8 c.p.fore.b, .int .i64 c.p.back.k, .int .u8 c.p.back.i, .int .u8 c.p.back.r, .int .u8 c.p.back.g, .int .u8 c.p.back.b, .int .u8 c.p.fl]

theorem undC : Tryd.prog.underlying 95 = some (.struct (Tryd.prog.fieldsOf 95)) := by kernel_rfl
theorem heldC : Tryd.prog.stoodInHeld 95 = false := by kernel_rfl
theorem guardC : Tryd.prog.eqGuardType Tryd.prog.depth 95 = false := by kernel_rfl
theorem fieldsC : (Tryd.prog.fieldsOf 95).toList.map (fun f => (f.name, f.type, f.offset)) = [("Rune", 21, 0), ("Marks", 87, 1), ("Width", 3, 4), ("Pen", 93, 5)] := by kernel_rfl
theorem cells16 : Tryd.prog.cellsOf 95 = 16 := by kernel_rfl
theorem cells11p : Tryd.prog.cellsOf 93 = 11 := by kernel_rfl
theorem cells3m : Tryd.prog.cellsOf 87 = 3 := by kernel_rfl
theorem cells1r : Tryd.prog.cellsOf 21 = 1 := by kernel_rfl

theorem parts4 {α β : Type} (g : α → β) (l : List α) {b0 b1 b2 b3 : β} (h : l.map g = [b0, b1, b2, b3]) : ∃ a0 a1 a2 a3, l = [a0, a1, a2, a3] ∧ g a0 = b0 ∧ g a1 = b1 ∧ g a2 = b2 ∧ g a3 = b3 := by
  match l, h with
  | [a0, a1, a2, a3], h => simp at h; exact ⟨a0, a1, a2, a3, rfl, h⟩

theorem part_agg {t n : Nat} (hu : ∀ w, (isAgg t).run Tryd.prog w = .ok true w) (hi : ∃ i, Tryd.prog.info? t = some i) (hn : Tryd.prog.cellsOf t = n) (xs : Array Value) (o : Nat) (w : World) : (part t xs o).run Tryd.prog w = .ok (.agg (xs.extract o (o + n))) w := by
  obtain ⟨i, hi⟩ := hi
  simp only [part, Sem.run_bind, hu, Result.andThen_ok, if_true, run_sizeOf w hi, hn, Sem.run_pure]
theorem agg_pen (w : World) : (isAgg 93).run Tryd.prog w = .ok true w := by simp [isAgg, run_underlying und27]
theorem agg_marks (w : World) : (isAgg 87).run Tryd.prog w = .ok true w := by simp [isAgg, run_underlying Tryd.underlying87]

theorem eq_marks (n : Nat) (a b c d e f : Int) (w : World) : (Op.equalIn (n + 2) 87 (.agg #[.int .i32 a, .int .i32 b, .int .i32 c]) (.agg #[.int .i32 d, .int .i32 e, .int .i32 f])).run Tryd.prog w = .ok (a == d && b == e && c == f) w := by
  obtain ⟨i, hi⟩ := info_of_underlying Tryd.underlying21
  have h1 := run_equalIn_array w (n + 1) #[.int .i32 a, .int .i32 b, .int .i32 c] #[.int .i32 d, .int .i32 e, .int .i32 f] Tryd.underlying87 hi
  refine h1.trans ?_
  have p0 : ∀ (x y z : Int) (w : World), (part 21 #[.int .i32 x, .int .i32 y, .int .i32 z] 0).run Tryd.prog w = .ok (.int .i32 x) w := fun x y z w => part_int Tryd.underlying21 #[.int .i32 x, .int .i32 y, .int .i32 z] 0 _ rfl w
  have p1 : ∀ (x y z : Int) (w : World), (part 21 #[.int .i32 x, .int .i32 y, .int .i32 z] 1).run Tryd.prog w = .ok (.int .i32 y) w := fun x y z w => part_int Tryd.underlying21 #[.int .i32 x, .int .i32 y, .int .i32 z] 1 _ rfl w
  have p2 : ∀ (x y z : Int) (w : World), (part 21 #[.int .i32 x, .int .i32 y, .int .i32 z] 2).run Tryd.prog w = .ok (.int .i32 z) w := fun x y z w => part_int Tryd.underlying21 #[.int .i32 x, .int .i32 y, .int .i32 z] 2 _ rfl w
  have e0 : ∀ (x y : Int) (w : World), (Op.equalIn (n + 1) 21 (.int .i32 x) (.int .i32 y)).run Tryd.prog w = .ok (x == y) w := fun x y w => run_equalIn_int w n _ .i32 .i32 x y Tryd.underlying21
  rw [cells1r]
  show (Op.eqItems (n + 1) 21 1 _ _ [0, 1, 2]).run _ _ = _
  simp only [Op.eqItems, Sem.run_bind, p0, e0, Result.andThen_ok, Nat.zero_mul]
  cases h : a == d <;> cases h' : b == e <;> cases h'' : c == f <;> simp [p1, p2, e0, h', h'']

theorem eq_cell (c d : Ce) (w : World) : (Op.equalIn 10000 95 (.agg c.cs) (.agg d.cs)).run Tryd.prog w = .ok (decide (c = d)) w := by
  obtain ⟨f0, f1, f2, f3, hl, h0, h1, h2, h3⟩ := parts4 _ _ fieldsC
  rw [run_equalIn_agg w 9999 95 _ _ undC heldC, hl]
  have pr := fun xs o v h => part_int Tryd.underlying21 xs o v h w
  have pw := fun xs o v h => part_int Tryd.underlying3 xs o v h w
  have er := fun a b => run_equalIn_int (P := Tryd.prog) w 9998 21 .i32 .i32 a b Tryd.underlying21
  have ew := fun a b => run_equalIn_int (P := Tryd.prog) w 9998 3 .i64 .i64 a b Tryd.underlying3
  have pm : ∀ c : Ce, (part 87 #[.int .i32 c.r, .int .i32 c.m0, .int .i32 c.m1, .int .i32 c.m2, .int .i64 c.wd, .int .i64 c.p.fore.k, .int .u8 c.p.fore.i, .int .u8 c.p.fore.r, .int .u8 c.p.fore.g, .int .u8 c.p.fore.b, .int .i64 c.p.back.k, .int .u8 c.p.back.i, .int .u8 c.p.back.r, .int .u8 c.p.back.g, .int .u8 c.p.back.b, .int .u8 c.p.fl] 1).run Tryd.prog w = .ok (.agg #[.int .i32 c.m0, .int .i32 c.m1, .int .i32 c.m2]) w := fun c => part_agg agg_marks (info_of_underlying Tryd.underlying87) cells3m _ _ _
  have pp : ∀ c : Ce, (part 93 #[.int .i32 c.r, .int .i32 c.m0, .int .i32 c.m1, .int .i32 c.m2, .int .i64 c.wd, .int .i64 c.p.fore.k, .int .u8 c.p.fore.i, .int .u8 c.p.fore.r, .int .u8 c.p.fore.g, .int .u8 c.p.fore.b, .int .i64 c.p.back.k, .int .u8 c.p.back.i, .int .u8 c.p.back.r, .int .u8 c.p.back.g, .int .u8 c.p.back.b, .int .u8 c.p.fl] 5).run Tryd.prog w = .ok c.p.v w := fun c => part_agg agg_pen (info_of_underlying und27) cells11p _ _ _
  rw [eqFields_cons _ _ _ f0 _ h0 (by decide) _ _ _ w (pr _ 0 _ rfl) (pr _ 0 _ rfl) (er _ _),
    eqFields_cons _ _ _ f1 _ h1 (by decide) _ _ _ w (pm c) (pm d) (eq_marks 9997 _ _ _ _ _ _ w),
    eqFields_cons _ _ _ f2 _ h2 (by decide) _ _ _ w (pw _ 4 _ rfl) (pw _ 4 _ rfl) (ew _ _),
    eqFields_cons _ _ _ f3 _ h3 (by decide) _ _ _ w (pp c) (pp d) (eq_pen 9996 _ _ w)]
  simp only [Op.eqFields, Sem.run_pure]
  obtain ⟨a0, a1, a2, a3, a4, a5⟩ := c
  obtain ⟨b0, b1, b2, b3, b4, b5⟩ := d
  simp only [Ce.mk.injEq, beq_iff_eq, Bool.and_eq_true, decide_eq_true_eq]
  split <;> rename_i e0
  · split <;> rename_i e1
    · split <;> rename_i e2
      · split <;> rename_i e3
        · simp [e0, e1.1.1, e1.1.2, e1.2, e2, e3]
        · simp [e3]
      · simp [e2]
    · have : ¬ (a1 = b1 ∧ a2 = b2 ∧ a3 = b3 ∧ a4 = b4 ∧ a5 = b5) := fun h => e1 ⟨⟨h.1, h.2.1⟩, h.2.2.1⟩
      simp [this]
  · simp [e0]

theorem Blk.sixteen {w : World} {g : Nat} {t : TypeId} {y0 y1 y2 y3 y4 y5 y6 y7 y8 y9 y10 y11 y12 y13 y14 y15 : Value} (B : Blk w g t #[y0, y1, y2, y3, y4, y5, y6, y7, y8, y9, y10, y11, y12, y13, y14, y15]) :
    w.cell? ⟨g, 0, none⟩ = some y0 ∧ w.cell? ⟨g, 1, none⟩ = some y1 ∧ w.cell? ⟨g, 2, none⟩ = some y2 ∧ w.cell? ⟨g, 3, none⟩ = some y3 ∧ w.cell? ⟨g, 4, none⟩ = some y4 ∧ w.cell? ⟨g, 5, none⟩ = some y5 ∧ w.cell? ⟨g, 6, none⟩ = some y6 ∧ w.cell? ⟨g, 7, none⟩ = some y7 ∧ w.cell? ⟨g, 8, none⟩ = some y8 ∧ w.cell? ⟨g, 9, none⟩ = some y9 ∧ w.cell? ⟨g, 10, none⟩ = some y10 ∧ w.cell? ⟨g, 11, none⟩ = some y11 ∧ w.cell? ⟨g, 12, none⟩ = some y12 ∧ w.cell? ⟨g, 13, none⟩ = some y13 ∧ w.cell? ⟨g, 14, none⟩ = some y14 ∧ w.cell? ⟨g, 15, none⟩ = some y15 :=
  ⟨B.cell 0, B.cell 1, B.cell 2, B.cell 3, B.cell 4, B.cell 5, B.cell 6, B.cell 7, B.cell 8, B.cell 9, B.cell 10, B.cell 11, B.cell 12, B.cell 13, B.cell 14, B.cell 15⟩
end Go.Proofs.YtlpjhaghphmbeaaDoor
namespace Go.Proofs.YtlpjhaghphmbeaaDoor
open Go.RowKit

/-- The cells of cells, one behind the other. -/
def flatC (l : List Ce) : List Value := l.flatMap Ce.ls
theorem ls_len (c : Ce) : c.ls.length = 16 := rfl
theorem flatC_cons (c : Ce) (l : List Ce) : flatC (c :: l) = c.ls ++ flatC l := rfl
theorem flatC_len (l : List Ce) : (flatC l).length = l.length * 16 := by
  induction l with
  | nil => rfl
  | cons c l ih => rw [flatC_cons, List.length_append, ls_len, ih, List.length_cons]; omega
theorem flatC_at (l : List Ce) (i j : Nat) (hi : i < l.length) (hj : j < 16) : (flatC l)[i * 16 + j]? = (l[i]).ls[j]? := by
  induction l generalizing i with
  | nil => simp at hi
  | cons c l ih =>
    rw [flatC_cons]
    cases i with
    | zero => rw [List.getElem?_append_left (by rw [ls_len]; omega)]; simp
    | succ i =>
      rw [List.getElem?_append_right (by rw [ls_len]; omega), ls_len, show (i + 1) * 16 + j - 16 = i * 16 + j by omega, ih i (by simpa using hi)]
      rfl

/-- The slice with address A and length n holds the cells l; they lie in block b, if there are any. -/
def RdC (w : World) (b : Nat) (A : Option Addr) (n : Nat) (l : List Ce) : Prop :=
  l.length = n ∧ (0 < n → ∃ o, A = some ⟨b, o, none⟩ ∧ b < w.heap.size ∧ ∀ j, j < n * 16 → w.cell? ⟨b, o + j, none⟩ = (flatC l)[j]?)
section
variable {S : Nat → Prop} {w w' : World} {b n : Nat} {A : Option Addr} {l : List Ce}
theorem RdC.nil (w : World) (b : Nat) (A : Option Addr) : RdC w b A 0 [] := ⟨rfl, fun h => absurd h (by omega)⟩
theorem RdC.fr (h : RdC w b A n l) (hf : Fr S w w') (hn : ¬ S b) : RdC w' b A n l := by
  refine ⟨h.1, fun h0 => ?_⟩
  obtain ⟨o, rfl, hb, hc⟩ := h.2 h0
  exact ⟨o, rfl, Nat.lt_of_lt_of_le hb hf.size, fun j hj => (hf.cell (p := ⟨b, o + j, none⟩) hb hn).trans (hc j hj)⟩
theorem RdC.new (h : RdC w b A n l) (hf : New w w') : RdC w' b A n l := h.fr hf (fun h => h)
theorem RdC.drew (h : RdC w b A n l) : RdC w.drew b A n l := h
theorem RdC.drewN (h : RdC w b A n l) (k : Nat) : RdC (w.drewN k) b A n l := h
/-- The sixteen cells of a cell in memory. -/
def At16 (w : World) (b o : Nat) (c : Ce) : Prop := w.cell? ⟨b, o, none⟩ = some (.int .i32 c.r) ∧ w.cell? ⟨b, o + 1, none⟩ = some (.int .i32 c.m0) ∧ w.cell? ⟨b, o + 2, none⟩ = some (.int .i32 c.m1) ∧ w.cell? ⟨b, o + 3, none⟩ = some (.int .i32 c.m2) ∧ w.cell? ⟨b, o + 4, none⟩ = some (.int .i64 c.wd) ∧ w.cell? ⟨b, o + 5, none⟩ = some (.int .i64 c.p.fore.k) ∧ w.cell? ⟨b, o + 6, none⟩ = some (.int .u8 c.p.fore.i) ∧ w.cell? ⟨b, o + 7, none⟩ = some (.int .u8 c.p.fore.r) ∧ w.cell? ⟨b, o + 8, none⟩ = some (.int .u8 c.p.fore.g) ∧ w.cell? ⟨b, o + 9, none⟩ = some (.int .u8 c.p.fore.b) ∧ w.cell? ⟨b, o + 10, none⟩ = some (.int .i64 c.p.back.k) ∧ w.cell? ⟨b, o + 11, none⟩ = some (.int .u8 c.p.back.i) ∧ w.cell? ⟨b, o + 12, none⟩ = some (.int .u8 c.p.back.r) ∧ w.cell? ⟨b, o + 13, none⟩ = some (.int .u8 c.p.back.g) ∧ w.cell? ⟨b, o + 14, none⟩ = some (.int .u8 c.p.back.b) ∧ w.cell? ⟨b, o + 15, none⟩ = some (.int .u8 c.p.fl)
theorem RdC.at_ {o : Nat} (h : RdC w b (some ⟨b, o, none⟩) n l) {i : Nat} (hi : i < n) : At16 w b (o + i * 16) (l[i]'(by rw [h.1]; exact hi)) := by
  obtain ⟨o', ho, _, hc⟩ := h.2 (by omega)
  obtain rfl : o = o' := by simpa using ho
  have hl : i < l.length := by rw [h.1]; exact hi
  have key : ∀ j, j < 16 → w.cell? ⟨b, o + i * 16 + j, none⟩ = (l[i]).ls[j]? := fun j hj => by
    rw [Nat.add_assoc, hc (i * 16 + j) (by omega), flatC_at l i j hl hj]
  exact ⟨key 0 (by omega), key 1 (by omega), key 2 (by omega), key 3 (by omega), key 4 (by omega), key 5 (by omega), key 6 (by omega), key 7 (by omega), key 8 (by omega), key 9 (by omega), key 10 (by omega), key 11 (by omega), key 12 (by omega), key 13 (by omega), key 14 (by omega), key 15 (by omega)⟩
theorem RdC.base (h : RdC w b A n l) (hn : 0 < n) : ∃ o, A = some ⟨b, o, none⟩ := by
  obtain ⟨o, h, _⟩ := h.2 hn
  exact ⟨o, h⟩
theorem RdC.of_own {base : Nat} {e : TypeId} {c : Nat} (h : w.ownsRow base e 16 (.slice A n c) n (flatC l)) (hl : l.length = n) (hA : ∀ k, (Value.slice A n c).ownBlock = some k → k = b) : RdC w b A n l := by
  refine ⟨hl, fun hn => ?_⟩
  rcases h.2 with ⟨_, h0⟩ | ⟨g, cap, cur, hv, _, hh, _, _, _, ht⟩
  · omega
  · injection hv with hA'
    subst hA'
    have hg : g = b := hA g rfl
    subst hg
    refine ⟨0, rfl, Blk.lt hh, fun j hj => ?_⟩
    rw [Blk.cell hh, ← ht, List.getElem?_take, if_pos (by omega)]
    simp
end

theorem eq_cells (x y : Ce) (c : Bool) (h : decide (x = y) = c) : ∀ w, (Op.equalIn 10000 95 (.agg x.cs) (.agg y.cs)).run Tryd.prog w = .ok c w := fun w => by
  rw [eq_cell, h]

end Go.Proofs.YtlpjhaghphmbeaaDoor
