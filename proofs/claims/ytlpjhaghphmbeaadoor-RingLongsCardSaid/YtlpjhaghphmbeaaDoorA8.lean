/-
  Lines: used cells, fitting, putting; what follows from it.
  Lines as values: how they are made, loaded, stored; slices of cells cut, copied, made.
  Rows of cells of the call's own: append, make, copy, as runs of one operation; what else is known behind them.
  The library's functions over slices of cells.
-/
import Derived.Test.YtlpjhaghphmbeaaDoorA2
import Derived.OpenShut
import Derived.Laws.Cover4
import Derived.Test.YtlpjhaghphmbeaaDoorA7
import Derived.Test.YtlpjhaghphmbeaaDoorA6
import Derived.Laws.CopyRow
import Derived.Laws.IdiomCopy
import Derived.Lib.AppendZerosOnto
import Derived.Scope
import Derived.Test.YtlpjhaghphmbeaaDoorDStain
namespace Go.Proofs.YtlpjhaghphmbeaaDoor

/-- A line may be so. -/
def okL (l : List Ce) : Bool := decide (l.length ≤ 1000) && rowB l
/-- What a call answers: cells, whether they are soft, an error. -/
structure Lr where
  L : List Ce
  s : Bool
  e : Int
theorem okL_len {l : List Ce} (h : okL l = true) : l.length ≤ 1000 := by simp only [okL, Bool.and_eq_true, decide_eq_true_eq] at h; exact h.1
end Go.Proofs.YtlpjhaghphmbeaaDoor
namespace Go.Proofs.YtlpjhaghphmbeaaDoor
open Go.RowKit

theorem undL : Tryd.prog.underlying 36 = some (.struct (Tryd.prog.fieldsOf 36)) := by kernel_rfl
theorem infoL2 : (Tryd.prog.info? 36).map (·.size) = some 2 := by kernel_rfl
theorem run_loadS (w : World) {b o : Nat} {v : Value} (hc : w.cell? ⟨b, o, none⟩ = some v) : (Instr.loadAt 34 (.pointer (some ⟨b, o, none⟩))).run Tryd.prog w = .ok v w := by
  have hn : (isAgg 34).run Tryd.prog w = .ok false w := by simp [isAgg, run_underlying Tryd.underlying34]
  simp only [Instr.loadAt, Instr.sureAddr, loadVar, Sem.run_bind, Sem.run_pure, Result.andThen_ok, hn]
  rw [if_neg (by decide), run_load, hc]
theorem run_loadB (w : World) {b o : Nat} {v : Value} (hc : w.cell? ⟨b, o, none⟩ = some v) : (Instr.loadAt 4 (.pointer (some ⟨b, o, none⟩))).run Tryd.prog w = .ok v w := by
  have hn : (isAgg 4).run Tryd.prog w = .ok false w := by simp [isAgg, run_underlying Tryd.underlying4]
  simp only [Instr.loadAt, Instr.sureAddr, loadVar, Sem.run_bind, Sem.run_pure, Result.andThen_ok, hn]
  rw [if_neg (by decide), run_load, hc]
section
variable {ρ : Operand → Value} {o : Oper} {x y : Operand}
theorem rn_boxL {A : Option Addr} {n c : Nat} {s : Bool} (h : o.op = .box 36 x) (hx : ρ x = .agg #[.slice A n c, .bool s]) (w : World) : (execOp ρ o).run Tryd.prog w = .ok (.value (.pointer (some ⟨w.heap.size, 0, none⟩))) (w.alloc (.cells #[.slice A n c, .bool s] 36)) := by
  unfold execOp
  simp only [h, hx]
  kernel_rfl
theorem rn_allocL (h : o.op = .alloc 36) (w : World) : (execOp ρ o).run Tryd.prog w = .ok (.value (.pointer (some ⟨w.heap.size, 0, none⟩))) (w.alloc (.cells #[.slice none 0 0, .bool false] 36)) := by
  unfold execOp
  simp only [h]
  kernel_rfl
theorem rn_bL (h : o.op = .build 36 #[]) (w : World) : (execOp ρ o).run Tryd.prog w = .ok (.value (.agg #[.slice none 0 0, .bool false])) w := by
  unfold execOp
  simp only [h, List.map_toArray, List.map_nil]
  kernel_rfl
theorem rn_bL0 {A : Option Addr} {n c : Nat} (h : o.op = .build 36 #[(0, x)]) (hx : ρ x = .slice A n c) (w : World) : (execOp ρ o).run Tryd.prog w = .ok (.value (.agg #[.slice A n c, .bool false])) w := by
  unfold execOp
  simp only [h, List.map_toArray, List.map_cons, List.map_nil, hx]
  kernel_rfl
theorem rn_bL01 {A : Option Addr} {n c : Nat} {s : Bool} (h : o.op = .build 36 #[(0, x), (1, y)]) (hx : ρ x = .slice A n c) (hy : ρ y = .bool s) (w : World) : (execOp ρ o).run Tryd.prog w = .ok (.value (.agg #[.slice A n c, .bool s])) w := by
  unfold execOp
  simp only [h, List.map_toArray, List.map_cons, List.map_nil, hx, hy]
  kernel_rfl
theorem rn_faL0 {g off : Nat} {p : Value} (h : o.op = .fieldAddr 36 x 0) (hx : ρ x = .pointer (some ⟨g, off, none⟩)) (hp : .pointer (some ⟨g, off + 0, none⟩) = p) (w : World) : (execOp ρ o).run Tryd.prog w = .ok (.value p) w := by
  subst hp
  unfold execOp
  simp only [h, hx]
  kernel_rfl
theorem rn_faL1 {g off : Nat} {p : Value} (h : o.op = .fieldAddr 36 x 1) (hx : ρ x = .pointer (some ⟨g, off, none⟩)) (hp : .pointer (some ⟨g, off + 1, none⟩) = p) (w : World) : (execOp ρ o).run Tryd.prog w = .ok (.value p) w := by
  subst hp
  unfold execOp
  simp only [h, hx]
  kernel_rfl
theorem rn_ldS {g off : Nat} {t : TypeId} {cs : Array Value} {v : Value} {w : World} (h : o.op = .load 34 x) (hx : ρ x = .pointer (some ⟨g, off, none⟩)) (hB : Blk w g t cs) (hv : cs[off]? = some v) :
    (execOp ρ o).run Tryd.prog w = .ok (.value v) w := by
  unfold execOp
  simp only [h, hx, run_loadS w ((hB.cell off).trans hv), Sem.run_bind, Sem.run_pure, Result.andThen_ok]
theorem rn_ldB {g off : Nat} {t : TypeId} {cs : Array Value} {v : Value} {w : World} (h : o.op = .load 4 x) (hx : ρ x = .pointer (some ⟨g, off, none⟩)) (hB : Blk w g t cs) (hv : cs[off]? = some v) :
    (execOp ρ o).run Tryd.prog w = .ok (.value v) w := by
  unfold execOp
  simp only [h, hx, run_loadB w ((hB.cell off).trans hv), Sem.run_bind, Sem.run_pure, Result.andThen_ok]
theorem rn_eqB {i j b : Bool} (h : o.op = .binOp .eql 4 x y 4) (hx : ρ x = .bool i) (hy : ρ y = .bool j) (hb : (i == j) = b) (w : World) : (execOp ρ o).run Tryd.prog w = .ok (.value (.bool b)) w := by
  subst hb
  obtain ⟨dst, op, ty, pos, after, guard⟩ := o
  simp only at h
  subst h
  go_simp
theorem rn_gt8 {i j : Int} {b : Bool} (h : o.op = .binOp .gtr 5 x y 5) (hx : ρ x = .int .u8 i) (hy : ρ y = .int .u8 j) (hb : decide (j < i) = b) (w : World) : (execOp ρ o).run Tryd.prog w = .ok (.value (.bool b)) w := by
  subst hb
  obtain ⟨dst, op, ty, pos, after, guard⟩ := o
  simp only at h
  subst h
  go_simp
theorem rn_cv8I {i r : Int} (h : o.op = .convert 5 3 x) (hx : ρ x = .int .u8 i) (hr : IntKind.i64.wrap i = r) (w : World) : (execOp ρ o).run Tryd.prog w = .ok (.value (.int .i64 r)) w := by
  subst hr
  obtain ⟨dst, op, ty, pos, after, guard⟩ := o
  simp only at h
  subst h
  go_simp
theorem rn_bC02 {r d : Int} (h : o.op = .build 95 #[(0, x), (2, y)]) (hx : ρ x = .int .i32 r) (hy : ρ y = .int .i64 d) (w : World) : (execOp ρ o).run Tryd.prog w = .ok (.value (Ce.v ⟨r, 0, 0, 0, d, zeroP⟩)) w := by
  unfold execOp
  simp only [h, List.map_toArray, List.map_cons, List.map_nil, hx, hy]
  kernel_rfl
theorem rn_isnilC {A : Option Addr} {n c : Nat} {b : Bool} (h : o.op = .binOp .eql 34 x (.const (.slice none 0 0)) 34) (hx : ρ x = .slice A n c) (hc : ∀ v, ρ (.const v) = v) (hb : A.isNone = b) (w : World) : (execOp ρ o).run Tryd.prog w = .ok (.value (.bool b)) w := by
  subst hb
  unfold execOp
  simp only [h, hx, hc]
  cases A <;> kernel_rfl
theorem rn_bs0 (h : o.op = .buildSlice 34 0 #[]) (w : World) : (execOp ρ o).run Tryd.prog w = .ok (.value (.slice (some ⟨w.heap.size, 0, none⟩) 0 0)) (w.alloc (.cells #[] 95)) := by
  have e : (Instr.buildSlice 34 0 #[]).run Tryd.prog w = .ok (.slice (some ⟨w.heap.size, 0, none⟩) 0 0) (w.alloc (.cells #[] 95)) := by kernel_rfl
  unfold execOp
  simp only [h, List.map_toArray, List.map_nil, Sem.run_bind, e, Result.andThen_ok, Sem.run_pure]
end

/-- What a slice holds: the cells l. -/
def SlC (w : World) (v : Value) (l : List Ce) : Prop := ∃ A c b, v = .slice A l.length c ∧ l.length ≤ c ∧ RdC w b A l.length l
section
variable {w w' : World} {v : Value} {l : List Ce} {b n c : Nat} {A : Option Addr}
theorem SlC.new (h : SlC w v l) (hn : New w w') : SlC w' v l := by
  obtain ⟨A, c, b, h1, h2, h3⟩ := h
  exact ⟨A, c, b, h1, h2, h3.new hn⟩
theorem SlC.nil (w : World) : SlC w (.slice none 0 0) [] := ⟨none, 0, 0, rfl, Nat.le_refl _, RdC.nil _ _ _⟩
theorem SlC.own {base : Nat} (h : OwnC w base v n l) : SlC w v l := by
  have hl := own_len (R := rC) h
  subst hl
  obtain ⟨b, A, c, h1, h2, h3⟩ := own_rdg (R := rC) h
  exact ⟨A, c, b, h1, h2, rdc_of h3⟩
theorem SlC.mk (hr : RdC w b A n l) (hc : n ≤ c) : SlC w (.slice A n c) l := by
  obtain rfl := hr.1
  exact ⟨A, c, b, rfl, hc, hr⟩
theorem own_shape {base : Nat} (h : OwnC w base v n l) : ∃ A c, v = .slice A l.length c ∧ OwnC w base (.slice A l.length c) l.length l := by
  have hl := own_len (R := rC) h
  subst hl
  obtain ⟨A, c, rfl, -, -⟩ := own_sliceG h
  exact ⟨A, c, rfl, h⟩
end
end Go.Proofs.YtlpjhaghphmbeaaDoor
namespace Go.Proofs.YtlpjhaghphmbeaaDoor
open Go.RowKit

section
variable {ρ : Operand → Value} {o : Oper} {x y : Operand} {w : World}
theorem rx_append {base n m c b : Nat} {v : Value} {A : Option Addr} {l news : List Ce} (hown : OwnC w base v n l) (hr : RdC w b A m news) (h : o.op = .call { callee := .builtin .append, args := #[x, y], argTypes := #[34, 34] })
    (hx : ρ x = v) (hy : ρ y = .slice A m c) (hnm : n + m ≤ 100000000) (hbase : base ≤ w.heap.size) :
    ∃ v' w', (execOp ρ o).run Tryd.prog w = .ok (.value v') w' ∧ OwnC w' base v' (n + m) (l ++ news) ∧ w.grownBy w' v.ownBlock ∧ (v'.ownBlock = v.ownBlock ∨ v'.ownBlock = some w.heap.size) := by
  obtain ⟨v', w', hrun, h2⟩ := run_appendO (R := rC) w base o.type v n l hown b A m c news (of_rdc hr) hnm hbase
  refine ⟨v', w', ?_, h2⟩
  unfold execOp
  simp only [h, resolve, invoke, builtin, Sem.run_bind, Sem.run_pure, Result.andThen_ok, List.map_toArray, List.map_cons, List.map_nil, hx, hy]
  have e : (Builtin.append_ #[34, 34] o.type #[v, .slice A m c]).run Tryd.prog w = .ok v' w' := hrun
  simp only [e, Result.andThen_ok]
theorem zeroCells_size (z : Array Value) (n : Nat) : (Builtin.zeroCells z n).size = n * z.size := by simp [Builtin.zeroCells]
end
theorem Hp.ownC {w0 w w' : World} {H : List Bk} {base n : Nat} {v : Value} {l : List Ce} (h : Hp w0 H w) (hown : OwnC w base v n l) (hg : w.grownBy w' v.ownBlock) (hb : w0.heap.size ≤ base) (hty : H.all (fun b => !(b.t == 95)) = true) : Hp w0 H w' := by
  refine h.own (S := fun k => v.ownBlock = some k) (Fr.grown (Fr.refl _ _) hg (fun k hk => .inl hk)) (fun k hk => Nat.le_trans hb (own_blk hown k hk)) (fun b hB hk => ?_)
  have := List.all_eq_true.1 hty b hB
  exact own_far hown (h.bl b hB).2 (fun e => by rw [← e] at this; simp at this) hk
section
variable {DF : List Deferred} {P : Program} {md : Region.Mode} {ops : Array Oper} {Q : Exit → Act → World → Prop} {a : Act} {w : World} {S : World → Prop} {fuel : Nat} {listed : Array Bool} {N k : Nat} {F : List (Nat × Value)}
/-- An operation that alone may come up. -/
theorem hX {i : Nat} {o : Oper} {v : Value} {w' : World} (he : EnvD DF N F a) (hr : Region.ready md ops listed = [i]) (hoi : ops[i]? = some o) (hd : o.dst = some k) (hk : Nat.blt k N = true) (hw : Region.wanted o (yielded ops a.tmps) = true)
    (hrun : (execOp a.eval o).run P w = .ok (.value v) w') (hS : S w') (next : ∀ a', EnvD DF N ((k, v) :: F) a' → wpAnyH P md ops Q S fuel (listed.setIfInBounds i true) a' w') : wpAnyH P md ops Q S (fuel + 1) listed a w :=
  allH hr hoi hw (fun _ hK => wp_valw hrun (hK _ _ hS (by rw [hd]; exact next _ (he.put hk v))))
/-- The same of which something is known. -/
theorem hEx {i : Nat} {o : Oper} {R : Value → World → Prop} (he : EnvD DF N F a) (hr : Region.ready md ops listed = [i]) (hoi : ops[i]? = some o) (hd : o.dst = some k) (hk : Nat.blt k N = true) (hw : Region.wanted o (yielded ops a.tmps) = true)
    (hrun : ∃ v' w', (execOp a.eval o).run P w = .ok (.value v') w' ∧ R v' w') (next : ∀ v' w', R v' w' → S w' ∧ ∀ a', EnvD DF N ((k, v') :: F) a' → wpAnyH P md ops Q S fuel (listed.setIfInBounds i true) a' w') : wpAnyH P md ops Q S (fuel + 1) listed a w := by
  obtain ⟨v', w', h1, h2⟩ := hrun
  obtain ⟨h3, h4⟩ := next v' w' h2
  exact hX he hr hoi hd hk hw h1 h3 h4
theorem lEx {rest : List Oper} {o : Oper} {R : Value → World → Prop} (he : EnvD DF N F a) (hd : o.dst = some k) (hk : Nat.blt k N = true) (hw : Region.wanted o (yielded ops a.tmps) = true)
    (hrun : ∃ v' w', (execOp a.eval o).run P w = .ok (.value v') w' ∧ R v' w') (next : ∀ v' w', R v' w' → ∀ a', EnvD DF N ((k, v') :: F) a' → wpList P ops Q rest a' w') : wpList P ops Q (o :: rest) a w := by
  obtain ⟨v', w', h1, h2⟩ := hrun
  exact lV v' he hd hk hw h1 (next v' w' h2)
end
section
variable {DF : List Deferred} {ops : Array Oper} {Q : Exit → Act → World → Prop} {a : Act} {w w0 : World} {rest : List Oper} {o : Oper} {N k : Nat} {F : List (Nat × Value)} {H : List Bk}
/-- A store into a block of the call's own; no other block turns. -/
theorem lSetF (i : Nat) {off : Nat} {b : Bk} (news : Array Value) {v : Value} {cs : Array Value} {ty : TypeId} {x y : Operand} (he : EnvD DF N F a) (hH : Hp w0 H w) (hd : o.dst = none) (hw : Region.wanted o (yielded ops a.tmps) = true)
    (ho : o.op = .store ty x y) (hb : H[i]? = some b) (hx : evO F x = some (.pointer (some ⟨b.p, off, none⟩))) (hy : evO F y = some v) (hv : v.cells = news)
    (hi : (Tryd.prog.info? ty).map (·.size) = some news.size) (hfit : Nat.ble (off + news.size) b.cs.size = true) (h1 : oneAll news = true) (hcs : lay b.cs off news = cs)
    (next : ∀ w' a', Hp w0 (H.set i ⟨b.p, b.t, cs⟩) w' → Fr (fun k => k = b.p) w w' → EnvD DF N F a' → wpList Tryd.prog ops Q rest a' w') : wpList Tryd.prog ops Q (o :: rest) a w :=
  wpList_step fun K hK => by
    rw [if_pos hw]
    exact storeV_does ho (he.op hx) (he.op hy) hv (hH.at hb) hi (Nat.le_of_ble_eq_true hfit) (oneAll_mem h1) (fun w' hB hf _ => hK _ _ (by rw [hd]; exact next _ _ (hH.set hb (hcs ▸ hB) hf) hf (he.put0 _)))
end
end Go.Proofs.YtlpjhaghphmbeaaDoor
namespace Go.Proofs.YtlpjhaghphmbeaaDoor
open Go.RowKit

/-- What is returned is a row of the call's own: these cells; a line of them; a line and an error. -/
def RowSaid (L : List Ce) (w : World) (e : Ending) (w' : World) : Prop := (∃ A c, e = .returned (.slice A L.length c) ∧ OwnC w' w.heap.size (.slice A L.length c) L.length L) ∧ New w w'
def LnSaid (L : List Ce) (so : Bool) (w : World) (e : Ending) (w' : World) : Prop := (∃ A c, e = .returned (.agg #[.slice A L.length c, .bool so]) ∧ OwnC w' w.heap.size (.slice A L.length c) L.length L) ∧ New w w'
def LeSaid (r : Lr) (w : World) (e : Ending) (w' : World) : Prop := (∃ A c, e = .returned (.tuple #[.agg #[.slice A r.L.length c, .bool r.s], .int .i64 r.e]) ∧ OwnC w' w.heap.size (.slice A r.L.length c) r.L.length r.L) ∧ New w w'
theorem own_as {w : World} {base n : Nat} {v : Value} {l m : List Ce} (h : OwnC w base v n l) (e : l = m) : ∃ A c, v = .slice A m.length c ∧ OwnC w base (.slice A m.length c) m.length m := by
  subst e
  exact own_shape h
theorem row_said {w w' : World} {v : Value} {n : Nat} {l m : List Ce} (h : OwnC w' w.heap.size v n l) (e : l = m) (hn : New w w') : RowSaid m w (.returned v) w' := by
  obtain ⟨A, c, rfl, ho⟩ := own_as h e
  exact ⟨⟨A, c, rfl, ho⟩, hn⟩
theorem own_nil (w : World) (base : Nat) : OwnC w base (.slice none 0 0) 0 [] := World.ownsRow_nil _ _ _ _
section
variable {ρ : Operand → Value} {o : Oper} {x y : Operand}
end

set_option linter.unusedSimpArgs false in
set_option maxRecDepth 100000 in
set_option maxHeartbeats 1600000 in
theorem CloneC_any (l : List Ce) (n b cap : Nat) (A : Option Addr) (w : World) (hr : RdC w b A n l) (hn : n ≤ 1000000) :
    Calls Tryd.prog 73 #[.slice A n cap] w (RowSaid l w) := by
  refine calls_args (vl := [.slice A n cap]) 8 Tryd.func73 rfl Tryd.ntmps73 (by kernel_rfl) (fun a he => ?_)
  have he0 : Env 8 [(0, .slice A n cap)] a := he
  clear he
  have hH := Hp.start w
  refine wp_seq (wp_region_lit ?_)
  refine lW (.slice none 0 0) he0 rfl (rn_asg rfl (he0.op rfl) w) ?_
  intro a1 he1
  clear he0 a
  refine wpList_nil (then_ok ?_)
  cases A with
  | none =>
    refine wp_seq ?_
    refine wp_seq (wp_region_lit ?_)
    refine lW (.slice none n cap) he1 rfl (rn_mv rfl (he1.op rfl) w) ?_
    intro a2 he2
    clear he1 a1
    refine lW (.bool true) he2 rfl (rn_isnilC (A := none) rfl (he2.op rfl) (fun _ => rfl) rfl w) ?_
    intro a3 he3
    clear he2 a2
    refine wpList_nil (then_ok ?_)
    refine wp_cond_true (he3.op rfl) ?_
    obtain rfl : n = 0 := Nat.eq_zero_of_not_pos (fun h => by obtain ⟨o, ho, _⟩ := hr.2 h; cases ho)
    obtain rfl : l = [] := List.eq_nil_of_length_eq_zero hr.1
    refine wp_seq (wp_region_lit ?_)
    refine lW (.slice none 0 0) he3 rfl (rn_asg rfl (he3.op rfl) w) ?_
    intro a4 he4
    clear he3 a3
    refine wpList_nil (then_ok ?_)
    refine wp_ret ?_
    try simp only [Exit.then, Exit.inBlock]
    exact ret_env rfl he4 rfl (row_said (own_nil _ _) rfl hH.new)
  | some ad =>
    refine wp_seq ?_
    refine wp_seq (wp_region_lit ?_)
    refine lW (.slice (some ad) n cap) he1 rfl (rn_mv rfl (he1.op rfl) w) ?_
    intro a5 he5
    clear he1 a1
    refine lW (.bool false) he5 rfl (rn_isnilC (A := some ad) rfl (he5.op rfl) (fun _ => rfl) rfl w) ?_
    intro a6 he6
    clear he5 a5
    refine wpList_nil (then_ok ?_)
    refine wp_cond_false (he6.op rfl) ?_
    refine wp_skip ?_
    refine then_ok ?_
    refine wp_seq (wp_region_lit ?_)
    refine lNew (fun p => .slice (some ⟨p, 0, none⟩) 0 0) he6 hH rfl rfl (wanted_plain rfl _) (rn_bs0 rfl w) ?_
    intro pn wn a8 hn_ hHn he8
    clear he6 a6 hH
    refine lW (.slice (some ad) n cap) he8 rfl (rn_mv rfl (he8.op rfl) wn) ?_
    intro a9 he9
    clear he8 a8
    have hown : OwnC wn w.heap.size (.slice (some ⟨pn, 0, none⟩) 0 0) 0 [] := ⟨rfl, .inr ⟨pn, 0, #[], rfl, hHn.lo (i := 0) rfl, hHn.at (i := 0) rfl, Nat.le_refl _, Nat.zero_le _, rfl, rfl⟩⟩
    have hHd := hHn.tail rfl
    clear hHn
    refine lEx he9 rfl rfl (wanted_plain rfl _) (rx_append hown (hr.new hHd.new) rfl (he9.op rfl) (he9.op rfl) (by omega) hHd.new.size) ?_
    rintro vx wx ⟨hox, hgx, horx⟩
    have hHx := hHd.ownC hown hgx (Nat.le_refl _) (by kernel_rfl)
    intro a10 he10
    clear he9 a9
    refine lW (vx) he10 rfl (rn_asg rfl (he10.op rfl) wx) ?_
    intro a11 he11
    clear he10 a10
    refine wpList_nil (then_ok ?_)
    refine wp_ret ?_
    try simp only [Exit.then, Exit.inBlock]
    exact ret_env rfl he11 rfl (row_said hox (List.nil_append _) hHx.new)

end Go.Proofs.YtlpjhaghphmbeaaDoor
