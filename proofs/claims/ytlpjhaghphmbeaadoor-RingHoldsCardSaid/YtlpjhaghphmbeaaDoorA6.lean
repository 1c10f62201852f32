/-
  Slices of records: what has as many cells each, one behind the other.
  Slices of cells written out, and the steps of regions that make them.
  Words and runs as values: how they are compared, made, loaded.
  Further single operations: conversions, shifts, division, what is compared; stores of one number; what is returned out of a block.
-/
import Derived.Test.YtlpjhaghphmbeaaDoorA5
import Derived.Deep.MidRow
import Derived.Test.YtlpjhaghphmbeaaDoorKMath
import Derived.LoopN
namespace Go.Proofs.YtlpjhaghphmbeaaDoor
open Go.RowKit

/-- A type of records: its numbers, and the cells of each. -/
structure Rec (α : Type) where
  sz : Nat
  ty : TypeId
  sl : TypeId
  ls : α → List Value
  z : Value
  by_ : Nat
  len : ∀ x, (ls x).length = sz
  pos : 0 < sz
  one : ∀ x, ∀ u ∈ ls x, u.oneCell' = true
  info : (Tryd.prog.info? ty).map (fun i => (i.zero, i.size, i.bytes)) = some (some z, sz, by_)
  zc : z.cells.size = sz
  small : by_ ≤ 100000
  und : Tryd.prog.underlying sl = some (.slice ty)
  row : sz ≠ 1 → ∃ d, Tryd.prog.underlying ty = some d ∧ d.isRow = true

section
variable {α : Type} (R : Rec α)
def flatG (l : List α) : List Value := l.flatMap R.ls
theorem flatG_cons (c : α) (l : List α) : flatG R (c :: l) = R.ls c ++ flatG R l := rfl
theorem flatG_append (l m : List α) : flatG R (l ++ m) = flatG R l ++ flatG R m := by simp [flatG]
theorem flatG_len (l : List α) : (flatG R l).length = l.length * R.sz := by
  induction l with
  | nil => simp [flatG]
  | cons c l ih => rw [flatG_cons, List.length_append, R.len, ih, List.length_cons, Nat.add_mul]; omega
theorem flatG_at (l : List α) (i j : Nat) (hi : i < l.length) (hj : j < R.sz) : (flatG R l)[i * R.sz + j]? = (R.ls l[i])[j]? := by
  induction l generalizing i with
  | nil => simp at hi
  | cons c l ih =>
    rw [flatG_cons]
    cases i with
    | zero => rw [List.getElem?_append_left (by rw [R.len]; omega)]; simp
    | succ i =>
      rw [List.getElem?_append_right (by rw [R.len, Nat.add_mul]; omega), R.len, show (i + 1) * R.sz + j - R.sz = i * R.sz + j by rw [Nat.add_mul]; omega, ih i (by simpa using hi)]
      rfl
theorem flatG_one (l : List α) : ∀ u ∈ flatG R l, u.oneCell' = true := by
  intro u hu
  obtain ⟨c, _, h⟩ := List.mem_flatMap.1 hu
  exact R.one c u h
theorem flatG_take (l : List α) (k : Nat) : (flatG R l).take (k * R.sz) = flatG R (l.take k) := by
  induction l generalizing k with
  | nil => simp [flatG]
  | cons c l ih =>
    cases k with
    | zero => simp [flatG]
    | succ k =>
      rw [flatG_cons, List.take_succ_cons, flatG_cons, ← ih, List.take_append, R.len, List.take_of_length_le (by rw [R.len, Nat.add_mul]; omega)]
      congr 2
      rw [Nat.add_mul]; omega
theorem flatG_drop (l : List α) (k : Nat) : (flatG R l).drop (k * R.sz) = flatG R (l.drop k) := by
  induction l generalizing k with
  | nil => simp [flatG]
  | cons c l ih =>
    cases k with
    | zero => simp [flatG]
    | succ k =>
      rw [flatG_cons, List.drop_succ_cons, ← ih, List.drop_append, R.len, List.drop_eq_nil_of_le (by rw [R.len, Nat.add_mul]; omega), List.nil_append]
      congr 1
      rw [Nat.add_mul]; omega

/-- The slice with address A and length n holds the records l; they lie in block b, if there are any. -/
def RdG (w : World) (b : Nat) (A : Option Addr) (n : Nat) (l : List α) : Prop :=
  l.length = n ∧ (0 < n → ∃ o, A = some ⟨b, o, none⟩ ∧ b < w.heap.size ∧ ∀ j, j < n * R.sz → w.cell? ⟨b, o + j, none⟩ = (flatG R l)[j]?)
variable {R}
variable {S : Nat → Prop} {w w' : World} {b n : Nat} {A : Option Addr} {l : List α}
theorem RdG.nil (w : World) (b : Nat) (A : Option Addr) : RdG R w b A 0 [] := ⟨rfl, fun h => absurd h (by omega)⟩
theorem RdG.fr (h : RdG R w b A n l) (hf : Fr S w w') (hn : ¬ S b) : RdG R w' b A n l := by
  refine ⟨h.1, fun h0 => ?_⟩
  obtain ⟨o, rfl, hb, hc⟩ := h.2 h0
  exact ⟨o, rfl, Nat.lt_of_lt_of_le hb hf.size, fun j hj => (hf.cell (p := ⟨b, o + j, none⟩) hb hn).trans (hc j hj)⟩
theorem RdG.new (h : RdG R w b A n l) (hf : New w w') : RdG R w' b A n l := h.fr hf (fun h => h)
theorem RdG.base (h : RdG R w b A n l) (hn : 0 < n) : ∃ o, A = some ⟨b, o, none⟩ := by
  obtain ⟨o, h, _⟩ := h.2 hn
  exact ⟨o, h⟩
theorem RdG.of_own {base : Nat} {e : TypeId} {c : Nat} (h : w.ownsRow base e R.sz (.slice A n c) n (flatG R l)) (hl : l.length = n) (hA : ∀ k, (Value.slice A n c).ownBlock = some k → k = b) : RdG R w b A n l := by
  refine ⟨hl, fun hn => ?_⟩
  rcases h.2 with ⟨_, h0⟩ | ⟨g, cap, cur, hv, _, hh, _, _, _, ht⟩
  · omega
  · injection hv with hA'
    subst hA'
    have hg : g = b := hA g rfl
    subst hg
    refine ⟨0, rfl, Blk.lt hh, fun j hj => ?_⟩
    rw [Blk.cell hh, ← ht, List.getElem?_take, if_pos hj]
    simp
theorem own_sliceG {w : World} {base sz : Nat} {e : TypeId} {v : Value} {n : Nat} {xs : List Value} (h : w.ownsRow base e sz v n xs) : ∃ A c, v = .slice A n c ∧ n ≤ c ∧ c ≤ maxLen := by
  rcases h.2 with ⟨rfl, rfl⟩ | ⟨g, cap, cur, rfl, _, _, hc, hm, _⟩
  · exact ⟨none, 0, rfl, Nat.le_refl _, Nat.zero_le _⟩
  · exact ⟨_, cap, rfl, hc, hm⟩
theorem own_len {w : World} {base : Nat} {v : Value} {n : Nat} {l : List α} (h : w.ownsRow base R.ty R.sz v n (flatG R l)) : l.length = n := by
  have e := h.1
  rw [flatG_len] at e
  exact Nat.eq_of_mul_eq_mul_right R.pos e
theorem own_rdg {w : World} {base : Nat} {v : Value} {n : Nat} {l : List α} (h : w.ownsRow base R.ty R.sz v n (flatG R l)) : ∃ b A c, v = .slice A n c ∧ n ≤ c ∧ RdG R w b A n l := by
  have hl := own_len h
  obtain ⟨A, c, rfl, hc, _⟩ := own_sliceG h
  rcases A with _ | a
  · exact ⟨0, none, c, rfl, hc, RdG.of_own h hl (fun k hk => by simp [Value.ownBlock] at hk)⟩
  · exact ⟨a.block, _, c, rfl, hc, RdG.of_own h hl (fun k hk => by simpa [Value.ownBlock] using hk.symm)⟩

/-- The cells of a record of a slice. -/
theorem RdG.cells {o i : Nat} {c : α} (h : RdG R w b (some ⟨b, o, none⟩) n l) (hc : l[i]? = some c) : w.rangeAt b (o + i * R.sz) (R.ls c) := by
  obtain ⟨hl, e⟩ := List.getElem?_eq_some_iff.1 hc
  have hi : i < n := by rw [← h.1]; exact hl
  obtain ⟨o', ho', _, hcell⟩ := h.2 (by omega)
  obtain rfl : o = o' := by simpa using ho'
  intro j v hv
  have hj : j < R.sz := by
    have := (List.getElem?_eq_some_iff.1 hv).1
    rwa [R.len] at this
  have h1 : i * R.sz + j < n * R.sz := by
    have : (i + 1) * R.sz ≤ n * R.sz := Nat.mul_le_mul_right _ hi
    rw [Nat.add_mul] at this
    omega
  rw [Nat.add_assoc, hcell (i * R.sz + j) h1, flatG_at R l i j hl hj, e]
  exact hv
theorem run_load1 {ty : TypeId} {k : IntKind} (hu : Tryd.prog.underlying ty = some (.int k)) {b o : Nat} {v : Value} (hc : w.cell? ⟨b, o, none⟩ = some v) : (Instr.loadAt ty (.pointer (some ⟨b, o, none⟩))).run Tryd.prog w = .ok v w := by
  have hn : (isAgg ty).run Tryd.prog w = .ok false w := by simp [isAgg, run_underlying hu]
  simp only [Instr.loadAt, Instr.sureAddr, loadVar, Sem.run_bind, Sem.run_pure, Result.andThen_ok, hn]
  rw [if_neg (by decide), run_load, hc]
section
variable {ρ : Operand → Value} {o : Oper} {x : Operand}
/-- A record is loaded from a slice. -/
theorem rn_loadG {off o0 i : Nat} {c : α} (hr : RdG R w b (some ⟨b, o0, none⟩) n l) (h : o.op = .load R.ty x) (hx : ρ x = .pointer (some ⟨b, off, none⟩)) (hoff : off = o0 + i * R.sz) (hc : l[i]? = some c) (h1 : R.sz ≠ 1 := by decide) :
    (execOp ρ o).run Tryd.prog w = .ok (.value (.agg (R.ls c).toArray)) w := by
  subst hoff
  obtain ⟨d, hu, hd⟩ := R.row h1
  obtain ⟨inf, hi, _, hz1, _⟩ := info_parts R.info
  have hs : (Tryd.prog.info? R.ty).map (·.size) = some (R.ls c).length := by rw [hi, R.len]; simp [hz1]
  unfold execOp
  simp only [h, hx, run_loadAt_mid w b (o0 + i * R.sz) R.ty (R.ls c) _ (hr.cells hc) hu hd hs, Sem.run_bind, Sem.run_pure, Result.andThen_ok]
/-- A number is loaded from a record of a slice. -/
theorem rn_loadG1 {ty : TypeId} {k : IntKind} {off o0 i j : Nat} {c : α} {v : Value} (hr : RdG R w b (some ⟨b, o0, none⟩) n l) (hu : Tryd.prog.underlying ty = some (.int k)) (h : o.op = .load ty x) (hx : ρ x = .pointer (some ⟨b, off, none⟩)) (hoff : off = o0 + i * R.sz + j) (hc : l[i]? = some c) (hv : (R.ls c)[j]? = some v) :
    (execOp ρ o).run Tryd.prog w = .ok (.value v) w := by
  subst hoff
  unfold execOp
  simp only [h, hx, run_load1 hu ((hr.cells hc) j v hv), Sem.run_bind, Sem.run_pure, Result.andThen_ok]
end

theorem rdg_blk {g : Nat} {t : TypeId} {cs : Array Value} (hB : Blk w g t cs) (h : cs.toList = flatG R l) (hn : l.length = n) : RdG R w g (some ⟨g, 0, none⟩) n l :=
  ⟨hn, fun _ => ⟨0, rfl, hB.lt, fun j _ => by
    rw [Nat.zero_add, hB.cell j, ← h]
    simp⟩⟩

section
variable {ops : Array Oper} {Q : Exit → Act → World → Prop} {a : Act} {rest : List Oper} {o : Oper} {N k : Nat} {F : List (Nat × Value)}
end
end
end Go.Proofs.YtlpjhaghphmbeaaDoor
namespace Go.Proofs.YtlpjhaghphmbeaaDoor
open Go.RowKit

section
variable {ρ : Operand → Value} {o : Oper}
theorem rn_load {x : Operand} {g : Nat} {t : TypeId} {c : Ce} {w : World} (h : o.op = .load 95 x) (hx : ρ x = .pointer (some ⟨g, 0, none⟩)) (hB : Blk w g t c.cs) : (execOp ρ o).run Tryd.prog w = .ok (.value c.v) w := by
  unfold execOp
  simp only [h, hx, Instr.loadAt, Instr.sureAddr, Sem.run_bind, Sem.run_pure, Result.andThen_ok, run_loadVar_row (P := Tryd.prog) w g t 95 c.cs (0, 0) _ hB undC rfl infoC16]
theorem rn_not {x : Operand} {b : Bool} (h : o.op = .unOp .not 4 x) (hv : ρ x = .bool b) (w : World) : (execOp ρ o).run Tryd.prog w = .ok (.value (.bool (!b))) w := by
  unfold execOp
  simp only [h, hv]
  kernel_rfl
theorem rn_pk0 {x y z : Operand} {v : Value} (h : o.op = .pick x y z) (hc : ρ x = .bool false) (hv : ρ z = v) (w : World) : (execOp ρ o).run Tryd.prog w = .ok (.value v) w := by
  subst hv
  unfold execOp
  simp only [h, hc]
  kernel_rfl
theorem bs1 (x : Ce) (w : World) : (Instr.buildSlice 34 1 #[(0, .agg x.cs)]).run Tryd.prog w = .ok (.slice (some ⟨w.heap.size, 0, none⟩) 1 1) (w.alloc (.cells x.cs 95)) := by kernel_rfl
theorem rn_bs1 {a : Operand} {x : Ce} (h : o.op = .buildSlice 34 1 #[(0, a)]) (ha : ρ a = x.v) (w : World) : (execOp ρ o).run Tryd.prog w = .ok (.value (.slice (some ⟨w.heap.size, 0, none⟩) 1 1)) (w.alloc (.cells x.cs 95)) := by
  unfold execOp
  have e := bs1 x w
  simp only [h, List.map_toArray, List.map_cons, List.map_nil, ha, Sem.run_bind, e, Result.andThen_ok, Sem.run_pure]
end
section
variable {P : Program} {ops : Array Oper} {Q : Exit → Act → World → Prop} {a : Act} {w : World} {rest : List Oper} {o : Oper}
end
end Go.Proofs.YtlpjhaghphmbeaaDoor
namespace Go.Proofs.YtlpjhaghphmbeaaDoor
open Go.RowKit

abbrev Wd.cs (x : Wd) : Array Value := #[.int .u64 x.a, .int .u64 x.b, .int .u64 x.c]
abbrev Wd.v (x : Wd) : Value := .agg x.cs
abbrev Rn.cs (x : Rn) : Array Value := #[.int .i64 x.n, .int .u64 x.w.a, .int .u64 x.w.b, .int .u64 x.w.c]
abbrev Rn.v (x : Rn) : Value := .agg x.cs
def Rn.ls (x : Rn) : List Value := [.int .i64 x.n, .int .u64 x.w.a, .int .u64 x.w.b, .int .u64 x.w.c]

theorem infoM3 : (Tryd.prog.info? 87).map (·.size) = some 3 := by kernel_rfl

theorem parts2 {α β : Type} (g : α → β) (l : List α) {b0 b1 : β} (h : l.map g = [b0, b1]) : ∃ a0 a1, l = [a0, a1] ∧ g a0 = b0 ∧ g a1 = b1 := by
  match l, h with
  | [a0, a1], h => simp at h; exact ⟨a0, a1, rfl, h⟩
section
variable {ρ : Operand → Value} {o : Oper} {x y : Operand}
/-- A number out of a block. -/
theorem rn_ld1 {ty : TypeId} {k : IntKind} {g off : Nat} {t : TypeId} {cs : Array Value} {v : Value} {w : World} (h : o.op = .load ty x) (hx : ρ x = .pointer (some ⟨g, off, none⟩)) (hu : Tryd.prog.underlying ty = some (.int k)) (hB : Blk w g t cs) (hv : cs[off]? = some v) :
    (execOp ρ o).run Tryd.prog w = .ok (.value v) w := by
  unfold execOp
  simp only [h, hx, run_load1 hu ((hB.cell off).trans hv), Sem.run_bind, Sem.run_pure, Result.andThen_ok]
/-- A row out of a block. -/
theorem rn_ldp {ty : TypeId} {d : TypeDesc} {g off : Nat} {t : TypeId} {cs : Array Value} (vs : List Value) {w : World} (h : o.op = .load ty x) (hx : ρ x = .pointer (some ⟨g, off, none⟩)) (hu : Tryd.prog.underlying ty = some d) (hd : d.isRow = true) (hs : (Tryd.prog.info? ty).map (·.size) = some vs.length) (hB : Blk w g t cs) (hv : (cs.toList.drop off).take vs.length = vs) :
    (execOp ρ o).run Tryd.prog w = .ok (.value (.agg vs.toArray)) w := by
  have hR : w.rangeAt g off vs := fun q v hq => by
    rw [hB.cell (off + q)]
    rw [← hv, List.getElem?_take] at hq
    split at hq
    · rw [List.getElem?_drop] at hq
      simpa using hq
    · cases hq
  unfold execOp
  simp only [h, hx, run_loadAt_mid w g off ty vs _ hR hu hd hs, Sem.run_bind, Sem.run_pure, Result.andThen_ok]
theorem rn_faC0 {g off : Nat} {p : Value} (h : o.op = .fieldAddr 95 x 0) (hx : ρ x = .pointer (some ⟨g, off, none⟩)) (hp : .pointer (some ⟨g, off + 0, none⟩) = p) (w : World) : (execOp ρ o).run Tryd.prog w = .ok (.value p) w := by
  subst hp
  unfold execOp
  simp only [h, hx]
  kernel_rfl
theorem rn_faC1 {g off : Nat} {p : Value} (h : o.op = .fieldAddr 95 x 1) (hx : ρ x = .pointer (some ⟨g, off, none⟩)) (hp : .pointer (some ⟨g, off + 1, none⟩) = p) (w : World) : (execOp ρ o).run Tryd.prog w = .ok (.value p) w := by
  subst hp
  unfold execOp
  simp only [h, hx]
  kernel_rfl
theorem rn_faC2 {g off : Nat} {p : Value} (h : o.op = .fieldAddr 95 x 2) (hx : ρ x = .pointer (some ⟨g, off, none⟩)) (hp : .pointer (some ⟨g, off + 4, none⟩) = p) (w : World) : (execOp ρ o).run Tryd.prog w = .ok (.value p) w := by
  subst hp
  unfold execOp
  simp only [h, hx]
  kernel_rfl
theorem rn_faC3 {g off : Nat} {p : Value} (h : o.op = .fieldAddr 95 x 3) (hx : ρ x = .pointer (some ⟨g, off, none⟩)) (hp : .pointer (some ⟨g, off + 5, none⟩) = p) (w : World) : (execOp ρ o).run Tryd.prog w = .ok (.value p) w := by
  subst hp
  unfold execOp
  simp only [h, hx]
  kernel_rfl
theorem rn_subI {i j r : Int} (h : o.op = .binOp .sub 3 x y 3) (hx : ρ x = .int .i64 i) (hy : ρ y = .int .i64 j) (hr : IntKind.i64.wrap (i - j) = r) (w : World) : (execOp ρ o).run Tryd.prog w = .ok (.value (.int .i64 r)) w := by
  subst hr
  obtain ⟨dst, op, ty, pos, after, guard⟩ := o
  simp only at h
  subst h
  go_simp
end
end Go.Proofs.YtlpjhaghphmbeaaDoor
namespace Go.Proofs.YtlpjhaghphmbeaaDoor
open Go.RowKit

section
variable {ρ : Operand → Value} {o : Oper} {x y : Operand}
theorem rn_mv {x : Operand} {v : Value} (h : o.op = .move x) (hv : ρ x = v) (w : World) : (execOp ρ o).run Tryd.prog w = .ok (.value v) w := by
  subst hv
  unfold execOp
  simp only [h]
  kernel_rfl
theorem rn_asg {x : Operand} {v : Value} (h : o.op = .assign x) (hv : ρ x = v) (w : World) : (execOp ρ o).run Tryd.prog w = .ok (.value v) w := by
  subst hv
  unfold execOp
  simp only [h]
  kernel_rfl
theorem rn_pk {x y z : Operand} {v : Value} (h : o.op = .pick x y z) (hc : ρ x = .bool true) (hv : ρ y = v) (w : World) : (execOp ρ o).run Tryd.prog w = .ok (.value v) w := by
  subst hv
  unfold execOp
  simp only [h, hc]
  kernel_rfl
theorem rn_eqI {i j : Int} {b : Bool} (h : o.op = .binOp .eql 3 x y 3) (hx : ρ x = .int .i64 i) (hy : ρ y = .int .i64 j) (hb : (i == j) = b) (w : World) : (execOp ρ o).run Tryd.prog w = .ok (.value (.bool b)) w := by
  subst hb
  obtain ⟨dst, op, ty, pos, after, guard⟩ := o
  simp only at h
  subst h
  go_simp
theorem rn_eq32 {i j : Int} {b : Bool} (h : o.op = .binOp .eql 21 x y 21) (hx : ρ x = .int .i32 i) (hy : ρ y = .int .i32 j) (hb : (i == j) = b) (w : World) : (execOp ρ o).run Tryd.prog w = .ok (.value (.bool b)) w := by
  subst hb
  obtain ⟨dst, op, ty, pos, after, guard⟩ := o
  simp only at h
  subst h
  go_simp
theorem rn_ne32 {i j : Int} {b : Bool} (h : o.op = .binOp .neq 21 x y 21) (hx : ρ x = .int .i32 i) (hy : ρ y = .int .i32 j) (hb : (i != j) = b) (w : World) : (execOp ρ o).run Tryd.prog w = .ok (.value (.bool b)) w := by
  subst hb
  obtain ⟨dst, op, ty, pos, after, guard⟩ := o
  simp only at h
  subst h
  go_simp
theorem run_eqAgg {t : TypeId} {xs ys : Array Value} {b : Bool} {w : World} (hg : Tryd.prog.eqGuardType Tryd.prog.depth t = false) (he : (Op.equalIn 10000 t (.agg xs) (.agg ys)).run Tryd.prog w = .ok b w) (x y : Operand) (neg : Bool) :
    ((eqGuard (if neg then .neq else .eql) t x y (.agg xs) (.agg ys)).run Tryd.prog w = .ok () w) ∧ ((binOp (if neg then .neq else .eql) t (.agg xs) (.agg ys)).run Tryd.prog w = .ok (.bool (if neg then !b else b)) w) := by
  have he' : (Op.equal t (.agg xs) (.agg ys)).run Tryd.prog w = .ok b w := he
  cases neg
  · refine ⟨?_, ?_⟩
    · simp [eqGuard, hg]
    · simp [binOp, he']
  · refine ⟨?_, ?_⟩
    · simp [eqGuard, hg]
    · simp [binOp, he']
set_option linter.unusedSimpArgs false in
theorem rn_neC {c d : Ce} {b : Bool} (h : o.op = .binOp .neq 95 x y 95) (hx : ρ x = c.v) (hy : ρ y = d.v) (hb : (!decide (c = d)) = b) (w : World) : (execOp ρ o).run Tryd.prog w = .ok (.value (.bool b)) w := by
  subst hb
  obtain ⟨h1, h2⟩ := run_eqAgg (w := w) guardC (eq_cell c d w) x y true
  simp only [if_true, Bool.false_eq_true, if_false] at h1 h2
  unfold execOp
  simp only [h, hx, hy, Sem.run_bind, h1, h2, Result.andThen_ok, Sem.run_pure]
set_option linter.unusedSimpArgs false in
theorem rn_eqM {a b c d e f : Int} {q : Bool} (h : o.op = .binOp .eql 87 x y 87) (hx : ρ x = .agg #[.int .i32 a, .int .i32 b, .int .i32 c]) (hy : ρ y = .agg #[.int .i32 d, .int .i32 e, .int .i32 f]) (hb : (a == d && b == e && c == f) = q) (w : World) : (execOp ρ o).run Tryd.prog w = .ok (.value (.bool q)) w := by
  subst hb
  have hg : Tryd.prog.eqGuardType Tryd.prog.depth 87 = false := by kernel_rfl
  obtain ⟨h1, h2⟩ := run_eqAgg (w := w) hg (eq_marks 9998 a b c d e f w) x y false
  simp only [Bool.false_eq_true, if_false] at h1 h2
  unfold execOp
  simp only [h, hx, hy, Sem.run_bind, h1, h2, Result.andThen_ok, Sem.run_pure]
theorem rn_bM0 (h : o.op = .build 87 #[]) (w : World) : (execOp ρ o).run Tryd.prog w = .ok (.value (.agg #[.int .i32 0, .int .i32 0, .int .i32 0])) w := by
  unfold execOp
  simp only [h, List.map_toArray, List.map_nil]
  kernel_rfl
end

/-- What is stored into a block, whatever follows: a number or a row. -/
theorem storeV_does {w : World} {o : Oper} {a : Act} {Q : Exit → Act → World → Prop} {K : Act → World → Prop} {ty : TypeId} {x y : Operand} (ho : o.op = .store ty x y)
    {g i : Nat} {t : TypeId} {cur news : Array Value} {v : Value} (hx : a.eval x = .pointer (some ⟨g, i, none⟩)) (hy : a.eval y = v) (hv : v.cells = news) (hg : Blk w g t cur)
    (hi : (Tryd.prog.info? ty).map (·.size) = some news.size) (hfit : i + news.size ≤ cur.size) (h1 : ∀ u ∈ news.toList, u.oneCell' = true)
    (h : ∀ w', Blk w' g t (lay cur i news) → Fr (fun k => k = g) w w' → w'.heap.size = w.heap.size → K (a.put o.dst undef) w') : Oper.wp Tryd.prog o a w K Q := by
  have hs := run_storeCells_at Tryd.prog g i t news.toList 0 cur w hg (by simpa using hfit) h1
  have hrun : (storeVar ty ⟨g, i, none⟩ v).run Tryd.prog w = .ok () (w.setRow g (lay cur i news)) := by
    cases hq : Tryd.prog.info? ty with
    | none => simp [hq] at hi
    | some inf =>
      have hsz : news.size = inf.size := by simp [hq] at hi; omega
      simp only [Nat.add_zero, Array.length_toList] at hs
      simp [storeVar, sizeOf, typeInfo, hq, hv, hsz, hs, lay]
  unfold Oper.wp execOp
  simp only [ho, hx, hy, Instr.storeAt, Instr.sureAddr, Sem.run_bind, Sem.run_pure, Result.andThen_ok, hrun]
  exact h _ (setRow_heap w g cur _ t _ hg) (fr_setRow w g _) (by simp)
section
variable {DF : List Deferred} {ops : Array Oper} {Q : Exit → Act → World → Prop} {a : Act} {w w0 : World} {rest : List Oper} {o : Oper} {N k : Nat} {F : List (Nat × Value)} {H : List Bk}
theorem hSetV {md : Region.Mode} {S : World → Prop} {fuel : Nat} {listed : Array Bool} {n : Nat} (i : Nat) {off : Nat} {b : Bk} (news : Array Value) {v : Value} {cs : Array Value} {ty : TypeId} {x y : Operand} (he : EnvD DF N F a) (hH : Hp w0 H w) (hr : Region.ready md ops listed = [n]) (hoi : ops[n]? = some o) (hd : o.dst = none) (hw : Region.wanted o (yielded ops a.tmps) = true)
    (ho : o.op = .store ty x y) (hb : H[i]? = some b) (hx : evO F x = some (.pointer (some ⟨b.p, off, none⟩))) (hy : evO F y = some v) (hv : v.cells = news)
    (hi : (Tryd.prog.info? ty).map (·.size) = some news.size) (hfit : Nat.ble (off + news.size) b.cs.size = true) (h1 : oneAll news = true) (hcs : lay b.cs off news = cs)
    (next : ∀ w' a', Hp w0 (H.set i ⟨b.p, b.t, cs⟩) w' → Fr (fun k => k = b.p) w w' → EnvD DF N F a' → S w' ∧ wpAnyH Tryd.prog md ops Q S fuel (listed.setIfInBounds n true) a' w') : wpAnyH Tryd.prog md ops Q S (fuel + 1) listed a w :=
  allH hr hoi hw (fun K hK => storeV_does ho (he.op hx) (he.op hy) hv (hH.at hb) hi (Nat.le_of_ble_eq_true hfit) (oneAll_mem h1) (fun w' hB hf _ => by
    have := next w' (a.put none undef) (hH.set hb (hcs ▸ hB) hf) hf (he.put0 _)
    rw [hd]
    exact hK _ _ this.1 this.2))
/-- Returned out of a block. -/
theorem ret_row {fn : Func} {p : Tmp} {ty t : TypeId} {d : TypeDesc} {g : Nat} {cs : Array Value} {R : Ending → World → Prop} (hf : fn.results = #[.cell p ty]) (he : Env N F a) (hp : lk F p = some (.pointer (some ⟨g, 0, none⟩))) (hg : Blk w g t cs) (hu : Tryd.prog.underlying ty = some d) (hd : d.isRow = true) (hi : (Tryd.prog.info? ty).map (·.size) = some cs.size)
    (hR : R (.returned (.agg cs)) w) : bodyPost Tryd.prog fn R .ret a w :=
  bodyPost_ret (results_cell_row (P := Tryd.prog) hf a.tmps w g t cs (0, 0) _ (he.ev _ _ hp) hg hu (by cases d <;> first | rfl | cases hd) hi) he.df hR
theorem ret_rowt {fn : Func} {p u : Tmp} {ty t : TypeId} {d : TypeDesc} {g : Nat} {cs : Array Value} {v : Value} {R : Ending → World → Prop} (hf : fn.results = #[.cell p ty, .tmp u]) (he : Env N F a) (hp : lk F p = some (.pointer (some ⟨g, 0, none⟩))) (hv : lk F u = some v) (hg : Blk w g t cs) (hu : Tryd.prog.underlying ty = some d) (hd : d.isRow = true) (hi : (Tryd.prog.info? ty).map (·.size) = some cs.size)
    (hR : R (.returned (.tuple #[.agg cs, v])) w) : bodyPost Tryd.prog fn R .ret a w := by
  refine bodyPost_ret ?_ he.df hR
  have e1 : a.tmps.getD p undef = .pointer (some ⟨g, 0, none⟩) := he.ev _ _ hp
  have e2 : a.tmps.getD u undef = v := he.ev _ _ hv
  rw [results_cell_tmp hf, e1, e2]
  simp only [asAddr, Sem.run_pure, Result.andThen_ok, run_loadVar_row (P := Tryd.prog) w g t ty cs (0, 0) _ hg hu (by cases d <;> first | rfl | cases hd) hi]
theorem ret_tt {fn : Func} {p u : Tmp} {x v : Value} {R : Ending → World → Prop} (hf : fn.results = #[.tmp p, .tmp u]) (he : Env N F a) (hp : lk F p = some x) (hv : lk F u = some v)
    (hR : R (.returned (.tuple #[x, v])) w) : bodyPost Tryd.prog fn R .ret a w := by
  have e1 : a.tmps.getD p undef = x := he.ev _ _ hp
  have e2 : a.tmps.getD u undef = v := he.ev _ _ hv
  exact bodyPost_ret ((results_tmp2 hf a.tmps Tryd.prog w).trans (by rw [e1, e2])) he.df hR
end
end Go.Proofs.YtlpjhaghphmbeaaDoor
