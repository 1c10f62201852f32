/-
  Slices of records: what has as many cells each, one behind the other.
-/
import Derived.Test.YtjcpdldaimebbaaDoorHRn
import Derived.Deep.MidRow
namespace Go.Proofs.YtjcpdldaimebbaaDoor
open Go.RowKit

/-- A type of records: its numbers, and the cells of each. -/
structure Rec (α : Type) where
  sz : Nat
  ty : TypeId
  sl : TypeId
  ls : α → List Value
  z : Value
  by_ : Nat
  len : ∀ x, (ls x).length = sz
  pos : 0 < sz
  one : ∀ x, ∀ u ∈ ls x, u.oneCell' = true
  info : (Tryd.prog.info? ty).map (fun i => (i.zero, i.size, i.bytes)) = some (some z, sz, by_)
  zc : z.cells.size = sz
  small : by_ ≤ 100000
  und : Tryd.prog.underlying sl = some (.slice ty)
  row : ∃ d, Tryd.prog.underlying ty = some d ∧ d.isRow = true

section
variable {α : Type} (R : Rec α)
def flatG (l : List α) : List Value := l.flatMap R.ls
theorem flatG_cons (c : α) (l : List α) : flatG R (c :: l) = R.ls c ++ flatG R l := rfl
theorem flatG_append (l m : List α) : flatG R (l ++ m) = flatG R l ++ flatG R m := by simp [flatG]
theorem flatG_len (l : List α) : (flatG R l).length = l.length * R.sz := by
  induction l with
  | nil => simp [flatG]
  | cons c l ih => rw [flatG_cons, List.length_append, R.len, ih, List.length_cons, Nat.add_mul]; omega
theorem flatG_at (l : List α) (i j : Nat) (hi : i < l.length) (hj : j < R.sz) : (flatG R l)[i * R.sz + j]? = (R.ls l[i])[j]? := by
  induction l generalizing i with
  | nil => simp at hi
  | cons c l ih =>
    rw [flatG_cons]
    cases i with
    | zero => rw [List.getElem?_append_left (by rw [R.len]; omega)]; simp
    | succ i =>
      rw [List.getElem?_append_right (by rw [R.len, Nat.add_mul]; omega), R.len, show (i + 1) * R.sz + j - R.sz = i * R.sz + j by rw [Nat.add_mul]; omega, ih i (by simpa using hi)]
      rfl
theorem flatG_one (l : List α) : ∀ u ∈ flatG R l, u.oneCell' = true := by
  intro u hu
  obtain ⟨c, _, h⟩ := List.mem_flatMap.1 hu
  exact R.one c u h
theorem flatG_take (l : List α) (k : Nat) : (flatG R l).take (k * R.sz) = flatG R (l.take k) := by
  induction l generalizing k with
  | nil => simp [flatG]
  | cons c l ih =>
    cases k with
    | zero => simp [flatG]
    | succ k =>
      rw [flatG_cons, List.take_succ_cons, flatG_cons, ← ih, List.take_append, R.len, List.take_of_length_le (by rw [R.len, Nat.add_mul]; omega)]
      congr 2
      rw [Nat.add_mul]; omega
theorem flatG_drop (l : List α) (k : Nat) : (flatG R l).drop (k * R.sz) = flatG R (l.drop k) := by
  induction l generalizing k with
  | nil => simp [flatG]
  | cons c l ih =>
    cases k with
    | zero => simp [flatG]
    | succ k =>
      rw [flatG_cons, List.drop_succ_cons, ← ih, List.drop_append, R.len, List.drop_eq_nil_of_le (by rw [R.len, Nat.add_mul]; omega), List.nil_append]
      congr 1
      rw [Nat.add_mul]; omega

/-- The slice with address A and length n holds the records l; they lie in block b, if there are any. -/
def RdG (w : World) (b : Nat) (A : Option Addr) (n : Nat) (l : List α) : Prop :=
  l.length = n ∧ (0 < n → ∃ o, A = some ⟨b, o, none⟩ ∧ b < w.heap.size ∧ ∀ j, j < n * R.sz → w.cell? ⟨b, o + j, none⟩ = (flatG R l)[j]?)
variable {R}
variable {S : Nat → Prop} {w w' : World} {b n : Nat} {A : Option Addr} {l : List α}
theorem RdG.nil (w : World) (b : Nat) (A : Option Addr) : RdG R w b A 0 [] := ⟨rfl, fun h => absurd h (by omega)⟩
theorem RdG.fr (h : RdG R w b A n l) (hf : Fr S w w') (hn : ¬ S b) : RdG R w' b A n l := by
  refine ⟨h.1, fun h0 => ?_⟩
  obtain ⟨o, rfl, hb, hc⟩ := h.2 h0
  exact ⟨o, rfl, Nat.lt_of_lt_of_le hb hf.size, fun j hj => (hf.cell (p := ⟨b, o + j, none⟩) hb hn).trans (hc j hj)⟩
theorem RdG.new (h : RdG R w b A n l) (hf : New w w') : RdG R w' b A n l := h.fr hf (fun h => h)
theorem RdG.low {w0 w'' : World} (h0 : RdG R w0 b A n l) (hn : New w0 w') (hf : Fr (fun k => w0.heap.size ≤ k) w' w'') : RdG R w'' b A n l := by
  refine ⟨h0.1, fun h => ?_⟩
  obtain ⟨o, rfl, hb, hc⟩ := h0.2 h
  refine ⟨o, rfl, Nat.lt_of_lt_of_le hb (Nat.le_trans hn.size hf.size), fun j hj => ?_⟩
  have hn' := hn.size
  rw [hf.cell (p := ⟨b, o + j, none⟩) (Nat.lt_of_lt_of_le hb hn') (by simp only; omega), hn.cell (p := ⟨b, o + j, none⟩) hb (fun h => h)]
  exact hc j hj
theorem RdG.base (h : RdG R w b A n l) (hn : 0 < n) : ∃ o, A = some ⟨b, o, none⟩ := by
  obtain ⟨o, h, _⟩ := h.2 hn
  exact ⟨o, h⟩
theorem RdG.of_own {base : Nat} {e : TypeId} {c : Nat} (h : w.ownsRow base e R.sz (.slice A n c) n (flatG R l)) (hl : l.length = n) (hA : ∀ k, (Value.slice A n c).ownBlock = some k → k = b) : RdG R w b A n l := by
  refine ⟨hl, fun hn => ?_⟩
  rcases h.2 with ⟨_, h0⟩ | ⟨g, cap, cur, hv, _, hh, _, _, _, ht⟩
  · omega
  · injection hv with hA'
    subst hA'
    have hg : g = b := hA g rfl
    subst hg
    refine ⟨0, rfl, Blk.lt hh, fun j hj => ?_⟩
    rw [Blk.cell hh, ← ht, List.getElem?_take, if_pos hj]
    simp
theorem own_sliceG {w : World} {base sz : Nat} {e : TypeId} {v : Value} {n : Nat} {xs : List Value} (h : w.ownsRow base e sz v n xs) : ∃ A c, v = .slice A n c ∧ n ≤ c ∧ c ≤ maxLen := by
  rcases h.2 with ⟨rfl, rfl⟩ | ⟨g, cap, cur, rfl, _, _, hc, hm, _⟩
  · exact ⟨none, 0, rfl, Nat.le_refl _, Nat.zero_le _⟩
  · exact ⟨_, cap, rfl, hc, hm⟩
theorem own_len {w : World} {base : Nat} {v : Value} {n : Nat} {l : List α} (h : w.ownsRow base R.ty R.sz v n (flatG R l)) : l.length = n := by
  have e := h.1
  rw [flatG_len] at e
  exact Nat.eq_of_mul_eq_mul_right R.pos e
theorem own_rdg {w : World} {base : Nat} {v : Value} {n : Nat} {l : List α} (h : w.ownsRow base R.ty R.sz v n (flatG R l)) : ∃ b A c, v = .slice A n c ∧ n ≤ c ∧ RdG R w b A n l := by
  have hl := own_len h
  obtain ⟨A, c, rfl, hc, _⟩ := own_sliceG h
  rcases A with _ | a
  · exact ⟨0, none, c, rfl, hc, RdG.of_own h hl (fun k hk => by simp [Value.ownBlock] at hk)⟩
  · exact ⟨a.block, _, c, rfl, hc, RdG.of_own h hl (fun k hk => by simpa [Value.ownBlock] using hk.symm)⟩

/-- The cells of a record of a slice. -/
theorem RdG.cells {o i : Nat} {c : α} (h : RdG R w b (some ⟨b, o, none⟩) n l) (hc : l[i]? = some c) : w.rangeAt b (o + i * R.sz) (R.ls c) := by
  obtain ⟨hl, e⟩ := List.getElem?_eq_some_iff.1 hc
  have hi : i < n := by rw [← h.1]; exact hl
  obtain ⟨o', ho', _, hcell⟩ := h.2 (by omega)
  obtain rfl : o = o' := by simpa using ho'
  intro j v hv
  have hj : j < R.sz := by
    have := (List.getElem?_eq_some_iff.1 hv).1
    rwa [R.len] at this
  have h1 : i * R.sz + j < n * R.sz := by
    have : (i + 1) * R.sz ≤ n * R.sz := Nat.mul_le_mul_right _ hi
    rw [Nat.add_mul] at this
    omega
  rw [Nat.add_assoc, hcell (i * R.sz + j) h1, flatG_at R l i j hl hj, e]
  exact hv
theorem run_load1 {ty : TypeId} {k : IntKind} (hu : Tryd.prog.underlying ty = some (.int k)) {b o : Nat} {v : Value} (hc : w.cell? ⟨b, o, none⟩ = some v) : (Instr.loadAt ty (.pointer (some ⟨b, o, none⟩))).run Tryd.prog w = .ok v w := by
  have hn : (isAgg ty).run Tryd.prog w = .ok false w := by simp [isAgg, run_underlying hu]
  simp only [Instr.loadAt, Instr.sureAddr, loadVar, Sem.run_bind, Sem.run_pure, Result.andThen_ok, hn]
  rw [if_neg (by decide), run_load, hc]
section
variable {ρ : Operand → Value} {o : Oper} {x : Operand}
/-- A record is loaded from a slice. -/
theorem rn_loadG {off o0 i : Nat} {c : α} (hr : RdG R w b (some ⟨b, o0, none⟩) n l) (h : o.op = .load R.ty x) (hx : ρ x = .pointer (some ⟨b, off, none⟩)) (hoff : off = o0 + i * R.sz) (hc : l[i]? = some c) :
    (execOp ρ o).run Tryd.prog w = .ok (.value (.agg (R.ls c).toArray)) w := by
  subst hoff
  obtain ⟨d, hu, hd⟩ := R.row
  obtain ⟨inf, hi, _, hz1, _⟩ := info_parts R.info
  have hs : (Tryd.prog.info? R.ty).map (·.size) = some (R.ls c).length := by rw [hi, R.len]; simp [hz1]
  unfold execOp
  simp only [h, hx, run_loadAt_mid w b (o0 + i * R.sz) R.ty (R.ls c) _ (hr.cells hc) hu hd hs, Sem.run_bind, Sem.run_pure, Result.andThen_ok]
/-- A number is loaded from a record of a slice. -/
theorem rn_loadG1 {ty : TypeId} {k : IntKind} {off o0 i j : Nat} {c : α} {v : Value} (hr : RdG R w b (some ⟨b, o0, none⟩) n l) (hu : Tryd.prog.underlying ty = some (.int k)) (h : o.op = .load ty x) (hx : ρ x = .pointer (some ⟨b, off, none⟩)) (hoff : off = o0 + i * R.sz + j) (hc : l[i]? = some c) (hv : (R.ls c)[j]? = some v) :
    (execOp ρ o).run Tryd.prog w = .ok (.value v) w := by
  subst hoff
  unfold execOp
  simp only [h, hx, run_load1 hu ((hr.cells hc) j v hv), Sem.run_bind, Sem.run_pure, Result.andThen_ok]
/-- A row is loaded from a record of a slice. -/
theorem rn_loadGp {ty : TypeId} {d : TypeDesc} {off o0 i j : Nat} {c : α} {vs : List Value} (hr : RdG R w b (some ⟨b, o0, none⟩) n l) (hu : Tryd.prog.underlying ty = some d) (hd : d.isRow = true) (hs : (Tryd.prog.info? ty).map (·.size) = some vs.length) (h : o.op = .load ty x) (hx : ρ x = .pointer (some ⟨b, off, none⟩)) (hoff : off = o0 + i * R.sz + j) (hc : l[i]? = some c) (hv : ((R.ls c).drop j).take vs.length = vs) :
    (execOp ρ o).run Tryd.prog w = .ok (.value (.agg vs.toArray)) w := by
  subst hoff
  have hR : w.rangeAt b (o0 + i * R.sz + j) vs := fun q v hq => by
    rw [Nat.add_assoc]
    refine hr.cells hc (j + q) v ?_
    rw [← hv] at hq
    rw [List.getElem?_take] at hq
    split at hq
    · rwa [List.getElem?_drop] at hq
    · cases hq
  unfold execOp
  simp only [h, hx, run_loadAt_mid w b _ ty vs _ hR hu hd hs, Sem.run_bind, Sem.run_pure, Result.andThen_ok]
end

/-- A block reads as a slice of records. -/
theorem rdg_lit (w : World) (l : List α) (cs : Array Value) (h : cs.toList = flatG R l) (n : Nat) (hn : l.length = n) : RdG R (w.alloc (.cells cs R.ty)) w.heap.size (some ⟨w.heap.size, 0, none⟩) n l :=
  ⟨hn, fun _ => ⟨0, rfl, by simp, fun j _ => by
    rw [Nat.zero_add, (Blk.new w R.ty cs).cell j, ← h]
    simp⟩⟩
theorem rdg_blk {g : Nat} {t : TypeId} {cs : Array Value} (hB : Blk w g t cs) (h : cs.toList = flatG R l) (hn : l.length = n) : RdG R w g (some ⟨g, 0, none⟩) n l :=
  ⟨hn, fun _ => ⟨0, rfl, hB.lt, fun j _ => by
    rw [Nat.zero_add, hB.cell j, ← h]
    simp⟩⟩

/-- append of records onto a row of the call's own, whatever the source is. -/
theorem run_appendG (w : World) (base : Nat) (ty : TypeId) (v : Value) (n : Nat) (l : List α) (hown : w.ownsRow base R.ty R.sz v n (flatG R l))
    (b : Nat) (A : Option Addr) (m c : Nat) (news : List α) (hr : RdG R w b A m news) (hnm : n + m ≤ 100000000) (hbase : base ≤ w.heap.size) :
    ∃ v' w', (Builtin.append_ #[R.sl, R.sl] ty #[v, .slice A m c]).run Tryd.prog w = .ok v' w' ∧ w'.ownsRow base R.ty R.sz v' (n + m) (flatG R (l ++ news)) ∧ w.grownBy w' v.ownBlock := by
  obtain ⟨i, hi, hz, hsize, hby⟩ := info_parts R.info
  have ht := R.und
  have hmb : (n + m) * R.by_ ≤ 140737488355328 := Nat.le_trans (Nat.mul_le_mul hnm R.small) (by decide)
  rcases Nat.eq_zero_or_pos m with rfl | hm
  · have hn : news = [] := List.eq_nil_of_length_eq_zero hr.1
    subst hn
    rcases A with _ | ad
    · refine ⟨v, w, ?_, by simpa using hown, ⟨rfl, rfl, rfl, Nat.le_refl _, fun _ _ _ => rfl⟩⟩
      rcases hown.2 with ⟨rfl, rfl⟩ | ⟨g, cap, cur, rfl, _, _, hnc, _⟩
      · simp [Builtin.append_, run_underlying ht, sizeOf, typeInfo, hi, Builtin.lenOf, Builtin.firstCells]
      · simp [Builtin.append_, run_underlying ht, sizeOf, typeInfo, hi, Builtin.lenOf, Builtin.firstCells, hnc, storeCells]
    · obtain ⟨v', w', h2, h3, h4, _, h5⟩ := run_append_own_at (P := Tryd.prog) w base R.sl ty R.ty i _ R.sz R.by_ ht hi hz hsize hby R.zc R.pos v n (flatG R l) hown ad 0 c [] (by simp) (by simp) (by simp) (by unfold maxLen; omega) (by simpa using hmb) hbase
      exact ⟨v', w', h2, by simpa using h3, h4⟩
  · obtain ⟨o, rfl, _, hc⟩ := hr.2 hm
    obtain ⟨v', w', h2, h3, h4, _, h5⟩ := run_append_own_at (P := Tryd.prog) w base R.sl ty R.ty i _ R.sz R.by_ ht hi hz hsize hby R.zc R.pos v n (flatG R l) hown ⟨b, o, none⟩ m c (flatG R news) (by rw [flatG_len, hr.1]) (fun j u hu => by
      have hj : j < m * R.sz := by
        have := (List.getElem?_eq_some_iff.1 hu).1
        rw [flatG_len, hr.1] at this
        exact this
      rw [addr_add, hc j hj, hu]) (flatG_one R news) (by unfold maxLen; omega) hmb hbase
    exact ⟨v', w', h2, by rw [flatG_append]; exact h3, h4⟩
section
variable {ops : Array Oper} {Q : Exit → Act → World → Prop} {a : Act} {rest : List Oper} {o : Oper} {N k : Nat} {F : List (Nat × Value)}
theorem lAppG {s x : Operand} {base m c : Nat} {v : Value} {news : List α} (hown : w.ownsRow base R.ty R.sz v n (flatG R l)) (hr : RdG R w b A m news) (he : Env N F a) (hd : o.dst = some k) (hk : Nat.blt k N = true) (hw : Region.wanted o (yielded ops a.tmps) = true)
    (ho : o.op = .call { callee := .builtin .append, args := #[s, x], argTypes := #[R.sl, R.sl] }) (hs : evO F s = some v)
    (hx : evO F x = some (.slice A m c)) (hnm : n + m ≤ 100000000) (hbase : base ≤ w.heap.size)
    (next : ∀ v' w' a', w'.ownsRow base R.ty R.sz v' (n + m) (flatG R (l ++ news)) → w.grownBy w' v.ownBlock → Env N ((k, v') :: F) a' → wpList Tryd.prog ops Q rest a' w') : wpList Tryd.prog ops Q (o :: rest) a w := by
  obtain ⟨v', w', hrun, h2, h3⟩ := run_appendG w base o.type v n l hown b A m c news hr hnm hbase
  refine wpList_step fun K hK => ?_
  rw [if_pos hw]
  unfold Oper.wp execOp
  simp only [ho, resolve, invoke, builtin, Sem.run_bind, Sem.run_pure, Result.andThen_ok, List.map_toArray, List.map_cons, List.map_nil, he.op hs, he.op hx, hrun]
  exact hK _ _ (by rw [hd]; exact next _ _ _ h2 h3 (he.put hk v'))
end
end
end Go.Proofs.YtjcpdldaimebbaaDoor
