/-
  Further single operations: conversions, shifts, division, what is compared; stores of one number; what is returned out of a block.
-/
import Derived.Test.YtjcpdldaimebbaaDoorKLeaf
import Derived.LoopN
namespace Go.Proofs.YtjcpdldaimebbaaDoor
open Go.RowKit

section
variable {ρ : Operand → Value} {o : Oper} {x y : Operand}
theorem rn_mv {x : Operand} {v : Value} (h : o.op = .move x) (hv : ρ x = v) (w : World) : (execOp ρ o).run Tryd.prog w = .ok (.value v) w := by
  subst hv
  unfold execOp
  simp only [h]
  kernel_rfl
theorem rn_asg {x : Operand} {v : Value} (h : o.op = .assign x) (hv : ρ x = v) (w : World) : (execOp ρ o).run Tryd.prog w = .ok (.value v) w := by
  subst hv
  unfold execOp
  simp only [h]
  kernel_rfl
theorem rn_pk {x y z : Operand} {v : Value} (h : o.op = .pick x y z) (hc : ρ x = .bool true) (hv : ρ y = v) (w : World) : (execOp ρ o).run Tryd.prog w = .ok (.value v) w := by
  subst hv
  unfold execOp
  simp only [h, hc]
  kernel_rfl
theorem rn_cvIU {i r : Int} (h : o.op = .convert 21 89 x) (hx : ρ x = .int .i32 i) (hr : IntKind.u64.wrap i = r) (w : World) : (execOp ρ o).run Tryd.prog w = .ok (.value (.int .u64 r)) w := by
  subst hr
  obtain ⟨dst, op, ty, pos, after, guard⟩ := o
  simp only at h
  subst h
  go_simp
theorem rn_cvWU {i r : Int} (h : o.op = .convert 3 89 x) (hx : ρ x = .int .i64 i) (hr : IntKind.u64.wrap i = r) (w : World) : (execOp ρ o).run Tryd.prog w = .ok (.value (.int .u64 r)) w := by
  subst hr
  obtain ⟨dst, op, ty, pos, after, guard⟩ := o
  simp only at h
  subst h
  go_simp
theorem rn_cvUI {i r : Int} (h : o.op = .convert 89 21 x) (hx : ρ x = .int .u64 i) (hr : IntKind.i32.wrap i = r) (w : World) : (execOp ρ o).run Tryd.prog w = .ok (.value (.int .i32 r)) w := by
  subst hr
  obtain ⟨dst, op, ty, pos, after, guard⟩ := o
  simp only at h
  subst h
  go_simp
theorem rn_cvUW {i r : Int} (h : o.op = .convert 89 3 x) (hx : ρ x = .int .u64 i) (hr : IntKind.i64.wrap i = r) (w : World) : (execOp ρ o).run Tryd.prog w = .ok (.value (.int .i64 r)) w := by
  subst hr
  obtain ⟨dst, op, ty, pos, after, guard⟩ := o
  simp only at h
  subst h
  go_simp
set_option linter.unusedSimpArgs false in
theorem rn_shlU {i r : Int} (k : Nat) (h : o.op = .binOp .shl 89 x y 77) (hx : ρ x = .int .u64 i) (hy : ρ y = .int .u64 (k : Int)) (hk : k ≤ 64) (hr : IntKind.u64.wrap (i * 2 ^ k) = r) (w : World) : (execOp ρ o).run Tryd.prog w = .ok (.value (.int .u64 r)) w := by
  subst hr
  have e : (Op.shift .shl .u64 i .u64 (k : Int)).run Tryd.prog w = .ok (.int .u64 (IntKind.u64.wrap (i * 2 ^ k))) w := by
    unfold Op.shift
    rw [if_neg (by omega), show min ((k : Int)).toNat IntKind.u64.bits = k by rw [Int.toNat_natCast]; exact Nat.min_eq_left hk]
    rfl
  unfold execOp
  simp only [h, hx, hy, binOp, Sem.run_bind, eqGuard, Bool.not_false, if_true, e, Result.andThen_ok, Sem.run_pure]
set_option linter.unusedSimpArgs false in
theorem rn_shlI {i r : Int} (k : Nat) (h : o.op = .binOp .shl 89 x y 3) (hx : ρ x = .int .u64 i) (hy : ρ y = .int .i64 (k : Int)) (hk : k ≤ 64) (hr : IntKind.u64.wrap (i * 2 ^ k) = r) (w : World) : (execOp ρ o).run Tryd.prog w = .ok (.value (.int .u64 r)) w := by
  subst hr
  have e : (Op.shift .shl .u64 i .i64 (k : Int)).run Tryd.prog w = .ok (.int .u64 (IntKind.u64.wrap (i * 2 ^ k))) w := by
    unfold Op.shift
    rw [if_neg (by omega), show min ((k : Int)).toNat IntKind.u64.bits = k by rw [Int.toNat_natCast]; exact Nat.min_eq_left hk]
    rfl
  unfold execOp
  simp only [h, hx, hy, binOp, Sem.run_bind, eqGuard, Bool.not_false, if_true, e, Result.andThen_ok, Sem.run_pure]
set_option linter.unusedSimpArgs false in
theorem rn_shrU {i r : Int} (k : Nat) (h : o.op = .binOp .shr 89 x y 77) (hx : ρ x = .int .u64 i) (hy : ρ y = .int .u64 (k : Int)) (hk : k ≤ 64) (hr : i.fdiv (2 ^ k) = r) (w : World) : (execOp ρ o).run Tryd.prog w = .ok (.value (.int .u64 r)) w := by
  subst hr
  have e : (Op.shift .shr .u64 i .u64 (k : Int)).run Tryd.prog w = .ok (.int .u64 (i.fdiv (2 ^ k))) w := by
    unfold Op.shift
    rw [if_neg (by omega), show min ((k : Int)).toNat IntKind.u64.bits = k by rw [Int.toNat_natCast]; exact Nat.min_eq_left hk]
    rfl
  unfold execOp
  simp only [h, hx, hy, binOp, Sem.run_bind, eqGuard, Bool.not_false, if_true, e, Result.andThen_ok, Sem.run_pure]
set_option linter.unusedSimpArgs false in
theorem rn_shrI {i r : Int} (k : Nat) (h : o.op = .binOp .shr 89 x y 3) (hx : ρ x = .int .u64 i) (hy : ρ y = .int .i64 (k : Int)) (hk : k ≤ 64) (hr : i.fdiv (2 ^ k) = r) (w : World) : (execOp ρ o).run Tryd.prog w = .ok (.value (.int .u64 r)) w := by
  subst hr
  have e : (Op.shift .shr .u64 i .i64 (k : Int)).run Tryd.prog w = .ok (.int .u64 (i.fdiv (2 ^ k))) w := by
    unfold Op.shift
    rw [if_neg (by omega), show min ((k : Int)).toNat IntKind.u64.bits = k by rw [Int.toNat_natCast]; exact Nat.min_eq_left hk]
    rfl
  unfold execOp
  simp only [h, hx, hy, binOp, Sem.run_bind, eqGuard, Bool.not_false, if_true, e, Result.andThen_ok, Sem.run_pure]
set_option linter.unusedSimpArgs false in
theorem rn_remU {i j r : Int} (h : o.op = .binOp .rem 89 x y 89) (hx : ρ x = .int .u64 i) (hy : ρ y = .int .u64 j) (h0 : 0 ≤ i) (hj : 0 < j) (hr : i % j = r) (w : World) : (execOp ρ o).run Tryd.prog w = .ok (.value (.int .u64 r)) w := by
  subst hr
  have e : (Op.intDiv .rem .u64 i j).run Tryd.prog w = .ok (.int .u64 (i % j)) w := by
    unfold Op.intDiv
    rw [if_neg (by omega)]
    simp only [Sem.run_pure]
    rw [Int.tmod_eq_emod_of_nonneg h0]
  unfold execOp
  simp only [h, hx, hy, binOp, Sem.run_bind, eqGuard, Bool.not_false, if_true, ne_eq, not_true_eq_false, if_false, e, Result.andThen_ok, Sem.run_pure]
set_option linter.unusedSimpArgs false in
theorem rn_quoU {i j r : Int} (h : o.op = .binOp .quo 89 x y 89) (hx : ρ x = .int .u64 i) (hy : ρ y = .int .u64 j) (h0 : 0 ≤ i) (hj : 0 < j) (h1 : i < 18446744073709551616) (hr : i / j = r) (w : World) : (execOp ρ o).run Tryd.prog w = .ok (.value (.int .u64 r)) w := by
  subst hr
  have e : (Op.intDiv .quo .u64 i j).run Tryd.prog w = .ok (.int .u64 (i / j)) w := by
    unfold Op.intDiv
    rw [if_neg (by omega)]
    simp only [Sem.run_pure]
    rw [Int.tdiv_eq_ediv_of_nonneg h0]
    have h2 : i / j ≤ i := Int.ediv_le_self _ h0
    have h3 : 0 ≤ i / j := Int.ediv_nonneg h0 (by omega)
    rw [u64_wraps _ h3 (by omega)]
  unfold execOp
  simp only [h, hx, hy, binOp, Sem.run_bind, eqGuard, Bool.not_false, if_true, ne_eq, not_true_eq_false, if_false, e, Result.andThen_ok, Sem.run_pure]
theorem rn_geqU {i j : Int} {b : Bool} (h : o.op = .binOp .geq 89 x y 89) (hx : ρ x = .int .u64 i) (hy : ρ y = .int .u64 j) (hb : decide (j ≤ i) = b) (w : World) : (execOp ρ o).run Tryd.prog w = .ok (.value (.bool b)) w := by
  subst hb
  obtain ⟨dst, op, ty, pos, after, guard⟩ := o
  simp only at h
  subst h
  go_simp
theorem rn_eqI {i j : Int} {b : Bool} (h : o.op = .binOp .eql 3 x y 3) (hx : ρ x = .int .i64 i) (hy : ρ y = .int .i64 j) (hb : (i == j) = b) (w : World) : (execOp ρ o).run Tryd.prog w = .ok (.value (.bool b)) w := by
  subst hb
  obtain ⟨dst, op, ty, pos, after, guard⟩ := o
  simp only at h
  subst h
  go_simp
theorem rn_eq32 {i j : Int} {b : Bool} (h : o.op = .binOp .eql 21 x y 21) (hx : ρ x = .int .i32 i) (hy : ρ y = .int .i32 j) (hb : (i == j) = b) (w : World) : (execOp ρ o).run Tryd.prog w = .ok (.value (.bool b)) w := by
  subst hb
  obtain ⟨dst, op, ty, pos, after, guard⟩ := o
  simp only at h
  subst h
  go_simp
theorem rn_ne32 {i j : Int} {b : Bool} (h : o.op = .binOp .neq 21 x y 21) (hx : ρ x = .int .i32 i) (hy : ρ y = .int .i32 j) (hb : (i != j) = b) (w : World) : (execOp ρ o).run Tryd.prog w = .ok (.value (.bool b)) w := by
  subst hb
  obtain ⟨dst, op, ty, pos, after, guard⟩ := o
  simp only at h
  subst h
  go_simp
theorem run_eqAgg {t : TypeId} {xs ys : Array Value} {b : Bool} {w : World} (hg : Tryd.prog.eqGuardType Tryd.prog.depth t = false) (he : (Op.equalIn 10000 t (.agg xs) (.agg ys)).run Tryd.prog w = .ok b w) (x y : Operand) (neg : Bool) :
    ((eqGuard (if neg then .neq else .eql) t x y (.agg xs) (.agg ys)).run Tryd.prog w = .ok () w) ∧ ((binOp (if neg then .neq else .eql) t (.agg xs) (.agg ys)).run Tryd.prog w = .ok (.bool (if neg then !b else b)) w) := by
  have he' : (Op.equal t (.agg xs) (.agg ys)).run Tryd.prog w = .ok b w := he
  cases neg
  · refine ⟨?_, ?_⟩
    · simp [eqGuard, hg]
    · simp [binOp, he']
  · refine ⟨?_, ?_⟩
    · simp [eqGuard, hg]
    · simp [binOp, he']
set_option linter.unusedSimpArgs false in
theorem rn_eqC {c d : Ce} {b : Bool} (h : o.op = .binOp .eql 60 x y 60) (hx : ρ x = c.v) (hy : ρ y = d.v) (hb : (decide (c = d)) = b) (w : World) : (execOp ρ o).run Tryd.prog w = .ok (.value (.bool b)) w := by
  subst hb
  obtain ⟨h1, h2⟩ := run_eqAgg (w := w) guardC (eq_cell c d w) x y false
  simp only [if_true, Bool.false_eq_true, if_false] at h1 h2
  unfold execOp
  simp only [h, hx, hy, Sem.run_bind, h1, h2, Result.andThen_ok, Sem.run_pure]
set_option linter.unusedSimpArgs false in
theorem rn_neC {c d : Ce} {b : Bool} (h : o.op = .binOp .neq 60 x y 60) (hx : ρ x = c.v) (hy : ρ y = d.v) (hb : (!decide (c = d)) = b) (w : World) : (execOp ρ o).run Tryd.prog w = .ok (.value (.bool b)) w := by
  subst hb
  obtain ⟨h1, h2⟩ := run_eqAgg (w := w) guardC (eq_cell c d w) x y true
  simp only [if_true, Bool.false_eq_true, if_false] at h1 h2
  unfold execOp
  simp only [h, hx, hy, Sem.run_bind, h1, h2, Result.andThen_ok, Sem.run_pure]
set_option linter.unusedSimpArgs false in
theorem rn_eqM {a b c d e f : Int} {q : Bool} (h : o.op = .binOp .eql 52 x y 52) (hx : ρ x = .agg #[.int .i32 a, .int .i32 b, .int .i32 c]) (hy : ρ y = .agg #[.int .i32 d, .int .i32 e, .int .i32 f]) (hb : (a == d && b == e && c == f) = q) (w : World) : (execOp ρ o).run Tryd.prog w = .ok (.value (.bool q)) w := by
  subst hb
  have hg : Tryd.prog.eqGuardType Tryd.prog.depth 52 = false := by kernel_rfl
  obtain ⟨h1, h2⟩ := run_eqAgg (w := w) hg (eq_marks 9998 a b c d e f w) x y false
  simp only [Bool.false_eq_true, if_false] at h1 h2
  unfold execOp
  simp only [h, hx, hy, Sem.run_bind, h1, h2, Result.andThen_ok, Sem.run_pure]
theorem rn_bM0 (h : o.op = .build 52 #[]) (w : World) : (execOp ρ o).run Tryd.prog w = .ok (.value (.agg #[.int .i32 0, .int .i32 0, .int .i32 0])) w := by
  unfold execOp
  simp only [h, List.map_toArray, List.map_nil]
  kernel_rfl
end

/-- What is stored into a block, whatever follows: a number or a row. -/
theorem storeV_does {w : World} {o : Oper} {a : Act} {Q : Exit → Act → World → Prop} {K : Act → World → Prop} {ty : TypeId} {x y : Operand} (ho : o.op = .store ty x y)
    {g i : Nat} {t : TypeId} {cur news : Array Value} {v : Value} (hx : a.eval x = .pointer (some ⟨g, i, none⟩)) (hy : a.eval y = v) (hv : v.cells = news) (hg : Blk w g t cur)
    (hi : (Tryd.prog.info? ty).map (·.size) = some news.size) (hfit : i + news.size ≤ cur.size) (h1 : ∀ u ∈ news.toList, u.oneCell' = true)
    (h : ∀ w', Blk w' g t (lay cur i news) → Fr (fun k => k = g) w w' → w'.heap.size = w.heap.size → K (a.put o.dst undef) w') : Oper.wp Tryd.prog o a w K Q := by
  have hs := run_storeCells_at Tryd.prog g i t news.toList 0 cur w hg (by simpa using hfit) h1
  have hrun : (storeVar ty ⟨g, i, none⟩ v).run Tryd.prog w = .ok () (w.setRow g (lay cur i news)) := by
    cases hq : Tryd.prog.info? ty with
    | none => simp [hq] at hi
    | some inf =>
      have hsz : news.size = inf.size := by simp [hq] at hi; omega
      simp only [Nat.add_zero, Array.length_toList] at hs
      simp [storeVar, sizeOf, typeInfo, hq, hv, hsz, hs, lay]
  unfold Oper.wp execOp
  simp only [ho, hx, hy, Instr.storeAt, Instr.sureAddr, Sem.run_bind, Sem.run_pure, Result.andThen_ok, hrun]
  exact h _ (setRow_heap w g cur _ t _ hg) (fr_setRow w g _) (by simp)
section
variable {ops : Array Oper} {Q : Exit → Act → World → Prop} {a : Act} {w w0 : World} {rest : List Oper} {o : Oper} {N k : Nat} {F : List (Nat × Value)} {H : List Bk}
theorem lSetV (i : Nat) {off : Nat} {b : Bk} (news : Array Value) {v : Value} {cs : Array Value} {ty : TypeId} {x y : Operand} (he : Env N F a) (hH : Hp w0 H w) (hd : o.dst = none) (hw : Region.wanted o (yielded ops a.tmps) = true)
    (ho : o.op = .store ty x y) (hb : H[i]? = some b) (hx : evO F x = some (.pointer (some ⟨b.p, off, none⟩))) (hy : evO F y = some v) (hv : v.cells = news)
    (hi : (Tryd.prog.info? ty).map (·.size) = some news.size) (hfit : Nat.ble (off + news.size) b.cs.size = true) (h1 : oneAll news = true) (hcs : lay b.cs off news = cs)
    (next : ∀ w' a', Hp w0 (H.set i ⟨b.p, b.t, cs⟩) w' → Env N F a' → wpList Tryd.prog ops Q rest a' w') : wpList Tryd.prog ops Q (o :: rest) a w :=
  wpList_step fun K hK => by
    rw [if_pos hw]
    exact storeV_does ho (he.op hx) (he.op hy) hv (hH.at hb) hi (Nat.le_of_ble_eq_true hfit) (oneAll_mem h1) (fun w' hB hf _ => hK _ _ (by rw [hd]; exact next _ _ (hH.set hb (hcs ▸ hB) hf) (he.put0 _)))
theorem hSetV {md : Region.Mode} {S : World → Prop} {fuel : Nat} {listed : Array Bool} {n : Nat} (i : Nat) {off : Nat} {b : Bk} (news : Array Value) {v : Value} {cs : Array Value} {ty : TypeId} {x y : Operand} (he : Env N F a) (hH : Hp w0 H w) (hr : Region.ready md ops listed = [n]) (hoi : ops[n]? = some o) (hd : o.dst = none) (hw : Region.wanted o (yielded ops a.tmps) = true)
    (ho : o.op = .store ty x y) (hb : H[i]? = some b) (hx : evO F x = some (.pointer (some ⟨b.p, off, none⟩))) (hy : evO F y = some v) (hv : v.cells = news)
    (hi : (Tryd.prog.info? ty).map (·.size) = some news.size) (hfit : Nat.ble (off + news.size) b.cs.size = true) (h1 : oneAll news = true) (hcs : lay b.cs off news = cs)
    (next : ∀ w' a', Hp w0 (H.set i ⟨b.p, b.t, cs⟩) w' → Fr (fun k => k = b.p) w w' → Env N F a' → S w' ∧ wpAnyH Tryd.prog md ops Q S fuel (listed.setIfInBounds n true) a' w') : wpAnyH Tryd.prog md ops Q S (fuel + 1) listed a w :=
  allH hr hoi hw (fun K hK => storeV_does ho (he.op hx) (he.op hy) hv (hH.at hb) hi (Nat.le_of_ble_eq_true hfit) (oneAll_mem h1) (fun w' hB hf _ => by
    have := next w' (a.put none undef) (hH.set hb (hcs ▸ hB) hf) hf (he.put0 _)
    rw [hd]
    exact hK _ _ this.1 this.2))
/-- Returned out of a block. -/
theorem ret_row {fn : Func} {p : Tmp} {ty t : TypeId} {d : TypeDesc} {g : Nat} {cs : Array Value} {R : Ending → World → Prop} (hf : fn.results = #[.cell p ty]) (he : Env N F a) (hp : lk F p = some (.pointer (some ⟨g, 0, none⟩))) (hg : Blk w g t cs) (hu : Tryd.prog.underlying ty = some d) (hd : d.isRow = true) (hi : (Tryd.prog.info? ty).map (·.size) = some cs.size)
    (hR : R (.returned (.agg cs)) w) : bodyPost Tryd.prog fn R .ret a w :=
  bodyPost_ret (results_cell_row (P := Tryd.prog) hf a.tmps w g t cs (0, 0) _ (he.ev _ _ hp) hg hu (by cases d <;> first | rfl | cases hd) hi) he.df hR
theorem ret_rowt {fn : Func} {p u : Tmp} {ty t : TypeId} {d : TypeDesc} {g : Nat} {cs : Array Value} {v : Value} {R : Ending → World → Prop} (hf : fn.results = #[.cell p ty, .tmp u]) (he : Env N F a) (hp : lk F p = some (.pointer (some ⟨g, 0, none⟩))) (hv : lk F u = some v) (hg : Blk w g t cs) (hu : Tryd.prog.underlying ty = some d) (hd : d.isRow = true) (hi : (Tryd.prog.info? ty).map (·.size) = some cs.size)
    (hR : R (.returned (.tuple #[.agg cs, v])) w) : bodyPost Tryd.prog fn R .ret a w := by
  refine bodyPost_ret ?_ he.df hR
  have e1 : a.tmps.getD p undef = .pointer (some ⟨g, 0, none⟩) := he.ev _ _ hp
  have e2 : a.tmps.getD u undef = v := he.ev _ _ hv
  rw [results_cell_tmp hf, e1, e2]
  simp only [asAddr, Sem.run_pure, Result.andThen_ok, run_loadVar_row (P := Tryd.prog) w g t ty cs (0, 0) _ hg hu (by cases d <;> first | rfl | cases hd) hi]
theorem ret_tt {fn : Func} {p u : Tmp} {x v : Value} {R : Ending → World → Prop} (hf : fn.results = #[.tmp p, .tmp u]) (he : Env N F a) (hp : lk F p = some x) (hv : lk F u = some v)
    (hR : R (.returned (.tuple #[x, v])) w) : bodyPost Tryd.prog fn R .ret a w := by
  have e1 : a.tmps.getD p undef = x := he.ev _ _ hp
  have e2 : a.tmps.getD u undef = v := he.ev _ _ hv
  exact bodyPost_ret ((results_tmp2 hf a.tmps Tryd.prog w).trans (by rw [e1, e2])) he.df hR
end
end Go.Proofs.YtjcpdldaimebbaaDoor
