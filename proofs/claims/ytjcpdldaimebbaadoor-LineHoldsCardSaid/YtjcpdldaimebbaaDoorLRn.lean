/-
  Slices of cells written out, and the steps of regions that make them.
-/
import Derived.Test.YtjcpdldaimebbaaDoorGDia
namespace Go.Proofs.YtjcpdldaimebbaaDoor
open Go.RowKit

abbrev cs2 (x y : Ce) : Array Value := #[.int .i32 x.r, .int .i32 x.m0, .int .i32 x.m1, .int .i32 x.m2, .int .i64 x.wd, .int .i64 x.p.fore.k, .int .u8 x.p.fore.i, .int .u8 x.p.fore.r, .int .u8 x.p.fore.g, .int .u8 x.p.fore.b, .int .i64 x.p.back.k, .int .u8 x.p.back.i, .int .u8 x.p.back.r, .int .u8 x.p.back.g, .int .u8 x.p.back.b, .int .u8 x.p.fl, .int .i32 y.r, .int .i32 y.m0, .int .i32 y.m1, .int .i32 y.m2, .int .i64 y.wd, .int .i64 y.p.fore.k, .int .u8 y.p.fore.i, .int .u8 y.p.fore.r, .int .u8 y.p.fore.g, .int .u8 y.p.fore.b, .int .i64 y.p.back.k, .int .u8 y.p.back.i, .int .u8 y.p.back.r, .int .u8 y.p.back.g, .int .u8 y.p.back.b, .int .u8 y.p.fl]
abbrev cs3 (x y z : Ce) : Array Value := #[.int .i32 x.r, .int .i32 x.m0, .int .i32 x.m1, .int .i32 x.m2, .int .i64 x.wd, .int .i64 x.p.fore.k, .int .u8 x.p.fore.i, .int .u8 x.p.fore.r, .int .u8 x.p.fore.g, .int .u8 x.p.fore.b, .int .i64 x.p.back.k, .int .u8 x.p.back.i, .int .u8 x.p.back.r, .int .u8 x.p.back.g, .int .u8 x.p.back.b, .int .u8 x.p.fl, .int .i32 y.r, .int .i32 y.m0, .int .i32 y.m1, .int .i32 y.m2, .int .i64 y.wd, .int .i64 y.p.fore.k, .int .u8 y.p.fore.i, .int .u8 y.p.fore.r, .int .u8 y.p.fore.g, .int .u8 y.p.fore.b, .int .i64 y.p.back.k, .int .u8 y.p.back.i, .int .u8 y.p.back.r, .int .u8 y.p.back.g, .int .u8 y.p.back.b, .int .u8 y.p.fl, .int .i32 z.r, .int .i32 z.m0, .int .i32 z.m1, .int .i32 z.m2, .int .i64 z.wd, .int .i64 z.p.fore.k, .int .u8 z.p.fore.i, .int .u8 z.p.fore.r, .int .u8 z.p.fore.g, .int .u8 z.p.fore.b, .int .i64 z.p.back.k, .int .u8 z.p.back.i, .int .u8 z.p.back.r, .int .u8 z.p.back.g, .int .u8 z.p.back.b, .int .u8 z.p.fl]
abbrev cs4 (x y z u : Ce) : Array Value := #[.int .i32 x.r, .int .i32 x.m0, .int .i32 x.m1, .int .i32 x.m2, .int .i64 x.wd, .int .i64 x.p.fore.k, .int .u8 x.p.fore.i, .int .u8 x.p.fore.r, .int .u8 x.p.fore.g, .int .u8 x.p.fore.b, .int .i64 x.p.back.k, .int .u8 x.p.back.i, .int .u8 x.p.back.r, .int .u8 x.p.back.g, .int .u8 x.p.back.b, .int .u8 x.p.fl, .int .i32 y.r, .int .i32 y.m0, .int .i32 y.m1, .int .i32 y.m2, .int .i64 y.wd, .int .i64 y.p.fore.k, .int .u8 y.p.fore.i, .int .u8 y.p.fore.r, .int .u8 y.p.fore.g, .int .u8 y.p.fore.b, .int .i64 y.p.back.k, .int .u8 y.p.back.i, .int .u8 y.p.back.r, .int .u8 y.p.back.g, .int .u8 y.p.back.b, .int .u8 y.p.fl, .int .i32 z.r, .int .i32 z.m0, .int .i32 z.m1, .int .i32 z.m2, .int .i64 z.wd, .int .i64 z.p.fore.k, .int .u8 z.p.fore.i, .int .u8 z.p.fore.r, .int .u8 z.p.fore.g, .int .u8 z.p.fore.b, .int .i64 z.p.back.k, .int .u8 z.p.back.i, .int .u8 z.p.back.r, .int .u8 z.p.back.g, .int .u8 z.p.back.b, .int .u8 z.p.fl, .int .i32 u.r, .int .i32 u.m0, .int .i32 u.m1, .int .i32 u.m2, .int .i64 u.wd, .int .i64 u.p.fore.k, .int .u8 u.p.fore.i, .int .u8 u.p.fore.r, .int .u8 u.p.fore.g, .int .u8 u.p.fore.b, .int .i64 u.p.back.k, .int .u8 u.p.back.i, .int .u8 u.p.back.r, .int .u8 u.p.back.g, .int .u8 u.p.back.b, .int .u8 u.p.fl]
theorem rdc_lit (w : World) (l : List Ce) (cs : Array Value) (h : cs.toList = flatC l) (n : Nat) (hn : l.length = n) : RdC (w.alloc (.cells cs 60)) w.heap.size (some ⟨w.heap.size, 0, none⟩) n l :=
  ⟨hn, fun _ => ⟨0, rfl, by simp, fun j _ => by
    rw [Nat.zero_add, (Blk.new w 60 cs).cell j, ← h]
    simp⟩⟩
theorem rd1 (w : World) (x : Ce) : RdC (w.alloc (.cells x.cs 60)) w.heap.size (some ⟨w.heap.size, 0, none⟩) 1 [x] := rdc_one w x
theorem rd2 (w : World) (x y : Ce) : RdC (w.alloc (.cells (cs2 x y) 60)) w.heap.size (some ⟨w.heap.size, 0, none⟩) 2 [x, y] := rdc_lit w _ _ rfl 2 rfl
theorem rd3 (w : World) (x y z : Ce) : RdC (w.alloc (.cells (cs3 x y z) 60)) w.heap.size (some ⟨w.heap.size, 0, none⟩) 3 [x, y, z] := rdc_lit w _ _ rfl 3 rfl
theorem rd4 (w : World) (x y z u : Ce) : RdC (w.alloc (.cells (cs4 x y z u) 60)) w.heap.size (some ⟨w.heap.size, 0, none⟩) 4 [x, y, z, u] := rdc_lit w _ _ rfl 4 rfl
section
variable {ρ : Operand → Value} {o : Oper}
theorem rn_load {x : Operand} {g : Nat} {t : TypeId} {c : Ce} {w : World} (h : o.op = .load 60 x) (hx : ρ x = .pointer (some ⟨g, 0, none⟩)) (hB : Blk w g t c.cs) : (execOp ρ o).run Tryd.prog w = .ok (.value c.v) w := by
  unfold execOp
  simp only [h, hx, Instr.loadAt, Instr.sureAddr, Sem.run_bind, Sem.run_pure, Result.andThen_ok, run_loadVar_row (P := Tryd.prog) w g t 60 c.cs (0, 0) _ hB undC rfl infoC16]
theorem rn_loadP {x : Operand} {g : Nat} {t : TypeId} {p : Pn} {w : World} (h : o.op = .load 58 x) (hx : ρ x = .pointer (some ⟨g, 0, none⟩)) (hB : Blk w g t p.cs) : (execOp ρ o).run Tryd.prog w = .ok (.value p.v) w := by
  unfold execOp
  simp only [h, hx, Instr.loadAt, Instr.sureAddr, Sem.run_bind, Sem.run_pure, Result.andThen_ok, run_loadVar_row (P := Tryd.prog) w g t 58 p.cs (0, 0) _ hB und27 rfl infoP11]
theorem rn_not {x : Operand} {b : Bool} (h : o.op = .unOp .not 4 x) (hv : ρ x = .bool b) (w : World) : (execOp ρ o).run Tryd.prog w = .ok (.value (.bool (!b))) w := by
  unfold execOp
  simp only [h, hv]
  kernel_rfl
theorem rn_pk0 {x y z : Operand} {v : Value} (h : o.op = .pick x y z) (hc : ρ x = .bool false) (hv : ρ z = v) (w : World) : (execOp ρ o).run Tryd.prog w = .ok (.value v) w := by
  subst hv
  unfold execOp
  simp only [h, hc]
  kernel_rfl
theorem rn_neq {x y : Operand} {s : ByteArray} (h : o.op = .binOp .neq 9 x y 9) (hx : ρ x = .string s) (hy : ρ y = .string s) (w : World) : (execOp ρ o).run Tryd.prog w = .ok (.value (.bool false)) w := by
  unfold execOp
  simp only [h, hx, hy]
  simp [go_sem]
theorem rn_bldaw {r d : Int} (h : o.op = .build 60 #[(0, .const (.int .i32 r)), (2, .const (.int .i64 d))]) (hc : ∀ v, ρ (.const v) = v) (w : World) : (execOp ρ o).run Tryd.prog w = .ok (.value (.agg (Ce.cs ⟨r, 0, 0, 0, d, zeroP⟩))) w := by
  unfold execOp
  simp only [h, List.map_toArray, List.map_cons, List.map_nil, hc]
  kernel_rfl
theorem rn_bldw {d : Int} (h : o.op = .build 60 #[(2, .const (.int .i64 d))]) (hc : ∀ v, ρ (.const v) = v) (w : World) : (execOp ρ o).run Tryd.prog w = .ok (.value (.agg (Ce.cs ⟨0, 0, 0, 0, d, zeroP⟩))) w := by
  unfold execOp
  simp only [h, List.map_toArray, List.map_cons, List.map_nil, hc]
  kernel_rfl
theorem rn_bldm {a b : Int} (h : o.op = .build 52 #[(0, .const (.int .i32 a)), (1, .const (.int .i32 b))]) (hc : ∀ v, ρ (.const v) = v) (w : World) : (execOp ρ o).run Tryd.prog w = .ok (.value (.agg #[.int .i32 a, .int .i32 b, .int .i32 0])) w := by
  unfold execOp
  simp only [h, List.map_toArray, List.map_cons, List.map_nil, hc]
  kernel_rfl
theorem rn_bldawm {x : Operand} {r d a b c : Int} (h : o.op = .build 60 #[(0, .const (.int .i32 r)), (2, .const (.int .i64 d)), (1, x)]) (hc : ∀ v, ρ (.const v) = v) (hx : ρ x = .agg #[.int .i32 a, .int .i32 b, .int .i32 c]) (w : World) : (execOp ρ o).run Tryd.prog w = .ok (.value (.agg (Ce.cs ⟨r, a, b, c, d, zeroP⟩))) w := by
  unfold execOp
  simp only [h, List.map_toArray, List.map_cons, List.map_nil, hc, hx]
  kernel_rfl
theorem rn_alloc (h : o.op = .alloc 60) (w : World) : (execOp ρ o).run Tryd.prog w = .ok (.value (.pointer (some ⟨w.heap.size, 0, none⟩))) (w.alloc (.cells zeroCe.cs 60)) := by
  unfold execOp
  simp only [h]
  kernel_rfl
theorem bs1 (x : Ce) (w : World) : (Instr.buildSlice 22 1 #[(0, .agg x.cs)]).run Tryd.prog w = .ok (.slice (some ⟨w.heap.size, 0, none⟩) 1 1) (w.alloc (.cells x.cs 60)) := by kernel_rfl
theorem rn_bs1 {a : Operand} {x : Ce} (h : o.op = .buildSlice 22 1 #[(0, a)]) (ha : ρ a = x.v) (w : World) : (execOp ρ o).run Tryd.prog w = .ok (.value (.slice (some ⟨w.heap.size, 0, none⟩) 1 1)) (w.alloc (.cells x.cs 60)) := by
  unfold execOp
  have e := bs1 x w
  simp only [h, List.map_toArray, List.map_cons, List.map_nil, ha, Sem.run_bind, e, Result.andThen_ok, Sem.run_pure]
theorem bs2 (x y : Ce) (w : World) : (Instr.buildSlice 22 2 #[(0, .agg x.cs), (1, .agg y.cs)]).run Tryd.prog w = .ok (.slice (some ⟨w.heap.size, 0, none⟩) 2 2) (w.alloc (.cells (cs2 x y) 60)) := by kernel_rfl
theorem rn_bs2 {a b : Operand} {x y : Ce} (h : o.op = .buildSlice 22 2 #[(0, a), (1, b)]) (ha : ρ a = x.v) (hb : ρ b = y.v) (w : World) : (execOp ρ o).run Tryd.prog w = .ok (.value (.slice (some ⟨w.heap.size, 0, none⟩) 2 2)) (w.alloc (.cells (cs2 x y) 60)) := by
  unfold execOp
  have e := bs2 x y w
  simp only [h, List.map_toArray, List.map_cons, List.map_nil, ha, hb, Sem.run_bind, e, Result.andThen_ok, Sem.run_pure]
theorem bs3 (x y z : Ce) (w : World) : (Instr.buildSlice 22 3 #[(0, .agg x.cs), (1, .agg y.cs), (2, .agg z.cs)]).run Tryd.prog w = .ok (.slice (some ⟨w.heap.size, 0, none⟩) 3 3) (w.alloc (.cells (cs3 x y z) 60)) := by kernel_rfl
theorem rn_bs3 {a b c : Operand} {x y z : Ce} (h : o.op = .buildSlice 22 3 #[(0, a), (1, b), (2, c)]) (ha : ρ a = x.v) (hb : ρ b = y.v) (hc : ρ c = z.v) (w : World) : (execOp ρ o).run Tryd.prog w = .ok (.value (.slice (some ⟨w.heap.size, 0, none⟩) 3 3)) (w.alloc (.cells (cs3 x y z) 60)) := by
  unfold execOp
  have e := bs3 x y z w
  simp only [h, List.map_toArray, List.map_cons, List.map_nil, ha, hb, hc, Sem.run_bind, e, Result.andThen_ok, Sem.run_pure]
theorem bs4 (x y z u : Ce) (w : World) : (Instr.buildSlice 22 4 #[(0, .agg x.cs), (1, .agg y.cs), (2, .agg z.cs), (3, .agg u.cs)]).run Tryd.prog w = .ok (.slice (some ⟨w.heap.size, 0, none⟩) 4 4) (w.alloc (.cells (cs4 x y z u) 60)) := by kernel_rfl
theorem rn_bs4 {a b c d : Operand} {x y z u : Ce} (h : o.op = .buildSlice 22 4 #[(0, a), (1, b), (2, c), (3, d)]) (ha : ρ a = x.v) (hb : ρ b = y.v) (hc : ρ c = z.v) (hd : ρ d = u.v) (w : World) : (execOp ρ o).run Tryd.prog w = .ok (.value (.slice (some ⟨w.heap.size, 0, none⟩) 4 4)) (w.alloc (.cells (cs4 x y z u) 60)) := by
  unfold execOp
  have e := bs4 x y z u w
  simp only [h, List.map_toArray, List.map_cons, List.map_nil, ha, hb, hc, hd, Sem.run_bind, e, Result.andThen_ok, Sem.run_pure]
end
section
variable {P : Program} {ops : Array Oper} {Q : Exit → Act → World → Prop} {a : Act} {w : World} {rest : List Oper} {o : Oper}
/-- One operation of a region in the text's order that yields a value. -/
theorem wpl_val {v : Value} {w' : World} (hw : Region.wanted o (yielded ops a.tmps) = true) (h : (execOp a.eval o).run P w = .ok (.value v) w') (hk : wpList P ops Q rest (a.put o.dst v) w') : wpList P ops Q (o :: rest) a w :=
  wpList_step fun K hK => by rw [if_pos hw]; exact wp_valw h (hK _ _ hk)
theorem wpl_call {f : FuncId} {xs : Array Operand} {ats : Array TypeId} {fn : Func} {c : Code} (hf : P.funcs[f]? = some fn) (hname : (fn.name == "runtime.NumGoroutine") = false) (hb : fn.body = some c)
    (ho : o.op = .call { callee := .value (.func f), args := xs, argTypes := ats }) (hw : Region.wanted o (yielded ops a.tmps) = true) {vs : Array Value} (hv : xs.map a.eval = vs)
    (hc : Calls P f vs w fun e w' => ∃ v, e = .returned v ∧ wpList P ops Q rest (a.put o.dst v) w') : wpList P ops Q (o :: rest) a w :=
  wpList_step fun K hK => by
    rw [if_pos hw]
    exact wp_callF hf hname hb ho hv (hc.mono fun e w' ⟨v, he, h⟩ => ⟨v, he, hK _ _ h⟩)
end
/-- A store into a block of the call's own, as one operation. -/
theorem stCW {w : World} {o : Oper} {a : Act} {K : Act → World → Prop} {Q : Exit → Act → World → Prop} (x y : Operand) (ho : o.op = .store 60 x y)
    (g : Nat) (d c : Ce) (hx : a.eval x = .pointer (some ⟨g, 0, none⟩)) (hy : a.eval y = .agg c.cs) (hg : Blk w g 60 d.cs)
    (h : ∀ w', Blk w' g 60 c.cs → Fr (fun k => k = g) w w' → w'.heap.size = w.heap.size → K (a.put o.dst undef) w') : Oper.wp Tryd.prog o a w K Q := by
  have hall : c.cs.all (·.oneCell') = true := by rw [Array.all_eq_true_iff_forall_mem]; intro u hu; exact one_cs c u (by simpa using hu)
  exact wp_store_row 60 x y ho g c.cs hx hy 60 d.cs hg infoC16 rfl hall (h _ (setRow_heap w g _ _ _ _ hg) (fr_setRow w g _) (by simp))

end Go.Proofs.YtjcpdldaimebbaaDoor
