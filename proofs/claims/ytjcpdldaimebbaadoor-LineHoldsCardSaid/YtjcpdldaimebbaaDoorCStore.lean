/-
  A whole cell stored at once, read at once, returned.
-/
import Derived.Test.YtjcpdldaimebbaaDoorCFix
import Derived.Laws.CopyRow
import Derived.Laws.OwnMore
import Derived.Laws.ResultCell
namespace Go.Proofs.YtjcpdldaimebbaaDoor
open Go.RowKit

theorem infoC16 : (Tryd.prog.info? 60).map (·.size) = some 16 := by kernel_rfl
theorem infoP11 : (Tryd.prog.info? 58).map (·.size) = some 11 := by kernel_rfl

/-- The row xs with ys laid from place i on. -/
def lay (xs : Array Value) (i : Nat) (ys : Array Value) : Array Value := (xs.toList.take i ++ ys.toList ++ xs.toList.drop (i + ys.size)).toArray
theorem lay_size (xs : Array Value) (i : Nat) (ys : Array Value) (h : i + ys.size ≤ xs.size) : (lay xs i ys).size = xs.size := by
  simp [lay]; omega
theorem lay_all (xs ys : Array Value) (h : xs.size = ys.size) : lay xs 0 ys = ys := by
  have e : xs.toList.drop (0 + ys.size) = [] := List.drop_eq_nil_of_le (by simp [h])
  unfold lay
  rw [e]
  simp

theorem fr_setRow (w : World) (g : Nat) (cs : Array Value) : Fr (fun k => k = g) w (w.setRow g cs) :=
  ⟨rfl, rfl, rfl, by simp, fun k _ hn => setRow_other w g k cs hn⟩

/-- What has many cells, stored into a part of a block. -/
theorem st_at {w : World} {ops : Array Oper} {rest : List Oper} {o : Oper} {a : Act} {Q : Exit → Act → World → Prop} (hgd : o.guard = none) (ty : TypeId) (x y : Operand) (ho : o.op = .store ty x y)
    (g i : Nat) (t : TypeId) (cur news : Array Value) (hx : a.eval x = .pointer (some ⟨g, i, none⟩)) (hy : a.eval y = .agg news) (hg : Blk w g t cur)
    (hi : (Tryd.prog.info? ty).map (·.size) = some news.size) (hfit : i + news.size ≤ cur.size) (h1 : ∀ u ∈ news.toList, u.oneCell' = true)
    (h : ∀ w', Blk w' g t (lay cur i news) → Fr (fun k => k = g) w w' → w'.heap.size = w.heap.size → wpList Tryd.prog ops Q rest (a.put o.dst undef) w') : wpList Tryd.prog ops Q (o :: rest) a w := by
  have hs := run_storeCells_at Tryd.prog g i t news.toList 0 cur w hg (by simpa using hfit) h1
  refine wpList_plain hgd fun K hK => ?_
  have hrun : (storeVar ty ⟨g, i, none⟩ (.agg news)).run Tryd.prog w = .ok () (w.setRow g (lay cur i news)) := by
    cases hq : Tryd.prog.info? ty with
    | none => simp [hq] at hi
    | some inf =>
      have hsz : news.size = inf.size := by simp [hq] at hi; omega
      simp only [Nat.add_zero, Array.length_toList] at hs
      simp [storeVar, sizeOf, typeInfo, hq, Value.cells, hsz, hs, lay]
  unfold Oper.wp execOp
  simp only [ho, hx, hy, Instr.storeAt, Instr.sureAddr, Sem.run_bind, Sem.run_pure, Result.andThen_ok, hrun]
  exact hK _ _ (h _ (setRow_heap w g cur _ t _ hg) (fr_setRow w g _) (by simp))

theorem one_cs (c : Ce) : ∀ u ∈ c.cs.toList, u.oneCell' = true := by
  intro u hu
  simp only [List.mem_cons, List.not_mem_nil, or_false] at hu
  rcases hu with h | h | h | h | h | h | h | h | h | h | h | h | h | h | h | h <;> subst h <;> rfl

/-- A cell stored into a block of its own. -/
theorem stC {w : World} {ops : Array Oper} {rest : List Oper} {o : Oper} {a : Act} {Q : Exit → Act → World → Prop} (hgd : o.guard = none) (x y : Operand) (ho : o.op = .store 60 x y)
    (g : Nat) (d c : Ce) (hx : a.eval x = .pointer (some ⟨g, 0, none⟩)) (hy : a.eval y = .agg c.cs) (hg : Blk w g 60 d.cs)
    (h : ∀ w', Blk w' g 60 c.cs → Fr (fun k => k = g) w w' → w'.heap.size = w.heap.size → wpList Tryd.prog ops Q rest (a.put o.dst undef) w') : wpList Tryd.prog ops Q (o :: rest) a w :=
  st_at hgd 60 x y ho g 0 60 d.cs c.cs hx hy hg infoC16 (by simp [Ce.cs]) (one_cs c) fun w' hb hf hz => h w' (by rwa [lay_all _ _ (by simp [Ce.cs])] at hb) hf hz

theorem flatC_take (l : List Ce) (k : Nat) : (flatC l).take (k * 16) = flatC (l.take k) := by
  induction l generalizing k with
  | nil => simp [flatC]
  | cons c l ih =>
    cases k with
    | zero => simp [flatC]
    | succ k =>
      rw [flatC_cons, List.take_succ_cons, flatC_cons, ← ih, List.take_append, ls_len, List.take_of_length_le (by rw [ls_len]; omega)]
      congr 2
      omega
theorem flatC_drop (l : List Ce) (k : Nat) : (flatC l).drop (k * 16) = flatC (l.drop k) := by
  induction l generalizing k with
  | nil => simp [flatC]
  | cons c l ih =>
    cases k with
    | zero => simp [flatC]
    | succ k =>
      rw [flatC_cons, List.drop_succ_cons, ← ih, List.drop_append, ls_len, List.drop_eq_nil_of_le (by rw [ls_len]; omega), List.nil_append]
      congr 1
      omega
theorem flatC_set (l : List Ce) (k : Nat) (c : Ce) (h : k < l.length) : (flatC l).take (k * 16) ++ c.ls ++ (flatC l).drop (k * 16 + 16) = flatC (l.set k c) := by
  rw [flatC_take, show k * 16 + 16 = (k + 1) * 16 by omega, flatC_drop, List.set_eq_take_append_cons_drop, if_pos h, flatC_append, flatC_cons, List.append_assoc]

/-- A cell stored into a row of the call's own. -/
theorem stO {w : World} {ops : Array Oper} {rest : List Oper} {o : Oper} {a : Act} {Q : Exit → Act → World → Prop} (hgd : o.guard = none) (x y : Operand) (ho : o.op = .store 60 x y)
    (base g n cap k : Nat) (l : List Ce) (c : Ce) (hx : a.eval x = .pointer (some ⟨g, k * 16, none⟩)) (hy : a.eval y = .agg c.cs) (hown : w.ownsRow base 60 16 (.slice (some ⟨g, 0, none⟩) n cap) n (flatC l)) (hk : k < n)
    (h : ∀ w', w'.ownsRow base 60 16 (.slice (some ⟨g, 0, none⟩) n cap) n (flatC (l.set k c)) → Fr (fun k => k = g) w w' → w'.heap.size = w.heap.size → wpList Tryd.prog ops Q rest (a.put o.dst undef) w') : wpList Tryd.prog ops Q (o :: rest) a w := by
  have hln : l.length = n := by
    have := hown.1
    rw [flatC_len] at this
    omega
  rcases hown.2 with ⟨h', _⟩ | ⟨g', cap', cur, h', hb, hg, hnc, hcm, hcs, htake⟩
  · simp at h'
  · simp only [Value.slice.injEq, Option.some.injEq, Addr.mk.injEq, and_true, true_and] at h'
    obtain ⟨rfl, rfl⟩ := h'
    have hfit : k * 16 + 16 ≤ cur.size := by omega
    refine st_at hgd 60 x y ho g (k * 16) 60 cur c.cs hx hy hg infoC16 hfit (one_cs c) fun w' hB hf hz => h w' ⟨?_, .inr ⟨g, cap, lay cur (k * 16) c.cs, rfl, hb, hB, hnc, hcm, ?_, ?_⟩⟩ hf hz
    · rw [flatC_len, List.length_set, hln]
    · rw [lay_size _ _ _ hfit, hcs]
    · rw [← flatC_set l k c (by omega), ← htake]
      simp only [lay, show c.cs.size = 16 from rfl]
      have hcl : cur.toList.length = cap * 16 := by simpa using hcs
      generalize cur.toList = L at hcl ⊢
      have e1 : (L.take (n * 16)).take (k * 16) = L.take (k * 16) := by rw [List.take_take, Nat.min_eq_left (by omega)]
      have e2 : (L.take (n * 16)).drop (k * 16 + 16) = (L.drop (k * 16 + 16)).take (n * 16 - (k * 16 + 16)) := by rw [List.drop_take]
      rw [e1, e2, List.take_append, List.take_of_length_le (by simp; omega)]
      congr 2
      simp
      omega

/-- What a call returns that has its result in a block of its own. -/
theorem ret_c {fn : Func} {p : Tmp} (hf : fn.results = #[.cell p 60]) {a : Act} {w : World} {g : Nat} {t : TypeId} {c : Ce} (hp : a.tmps.getD p undef = .pointer (some ⟨g, 0, none⟩)) (hg : Blk w g t c.cs) (hd : a.defers = [])
    {R : Ending → World → Prop} (hR : R (.returned c.v) w) : bodyPost Tryd.prog fn R .ret a w :=
  bodyPost_ret (results_cell_row (P := Tryd.prog) hf a.tmps w g t c.cs (0, 0) _ hp hg undC rfl infoC16) hd hR
theorem ret_ce {fn : Func} {p u : Tmp} (hf : fn.results = #[.cell p 60, .tmp u]) {a : Act} {w : World} {g : Nat} {t : TypeId} {c : Ce} {v : Value} (hp : a.tmps.getD p undef = .pointer (some ⟨g, 0, none⟩)) (hu : a.tmps.getD u undef = v) (hg : Blk w g t c.cs) (hd : a.defers = [])
    {R : Ending → World → Prop} (hR : R (.returned (.tuple #[c.v, v])) w) : bodyPost Tryd.prog fn R .ret a w := by
  refine bodyPost_ret ?_ hd hR
  rw [results_cell_tmp hf, hp, hu]
  simp only [asAddr, Sem.run_pure, Result.andThen_ok, run_loadVar_row (P := Tryd.prog) w g t 60 c.cs (0, 0) _ hg undC rfl infoC16]

end Go.Proofs.YtjcpdldaimebbaaDoor
