/-
  Slices of records: what has as many cells each, one behind the other.
  Words and runs as values: how they are compared, made, loaded.
  Further single operations: conversions, shifts, division, what is compared; stores of one number; what is returned out of a block.
  Regions that draw their order: an allocation that alone may come up, a call beside an allocation; and regions of calls and allocations of which only so much is known as no other one turns, whatever the order.
-/
import Derived.Test.YtaiijndldngnkaaDoorHRn
import Derived.Deep.MidRow
import Derived.Test.YtaiijndldngnkaaDoorKMath
import Derived.Test.YtaiijndldngnkaaDoorLRn
import Derived.LoopN
namespace Go.Proofs.YtaiijndldngnkaaDoor
open Go.RowKit

/-- A type of records: its numbers, and the cells of each. -/
structure Rec (α : Type) where
  sz : Nat
  ty : TypeId
  sl : TypeId
  ls : α → List Value
  z : Value
  by_ : Nat
  len : ∀ x, (ls x).length = sz
  pos : 0 < sz
  one : ∀ x, ∀ u ∈ ls x, u.oneCell' = true
  info : (Tryd.prog.info? ty).map (fun i => (i.zero, i.size, i.bytes)) = some (some z, sz, by_)
  zc : z.cells.size = sz
  small : by_ ≤ 100000
  und : Tryd.prog.underlying sl = some (.slice ty)
  row : ∃ d, Tryd.prog.underlying ty = some d ∧ d.isRow = true

section
variable {α : Type} (R : Rec α)
def flatG (l : List α) : List Value := l.flatMap R.ls
theorem flatG_cons (c : α) (l : List α) : flatG R (c :: l) = R.ls c ++ flatG R l := rfl
theorem flatG_append (l m : List α) : flatG R (l ++ m) = flatG R l ++ flatG R m := by simp [flatG]
theorem flatG_len (l : List α) : (flatG R l).length = l.length * R.sz := by
  induction l with
  | nil => simp [flatG]
  | cons c l ih => rw [flatG_cons, List.length_append, R.len, ih, List.length_cons, Nat.add_mul]; omega
theorem flatG_at (l : List α) (i j : Nat) (hi : i < l.length) (hj : j < R.sz) : (flatG R l)[i * R.sz + j]? = (R.ls l[i])[j]? := by
  induction l generalizing i with
  | nil => simp at hi
  | cons c l ih =>
    rw [flatG_cons]
    cases i with
    | zero => rw [List.getElem?_append_left (by rw [R.len]; omega)]; simp
    | succ i =>
      rw [List.getElem?_append_right (by rw [R.len, Nat.add_mul]; omega), R.len, show (i + 1) * R.sz + j - R.sz = i * R.sz + j by rw [Nat.add_mul]; omega, ih i (by simpa using hi)]
      rfl
theorem flatG_one (l : List α) : ∀ u ∈ flatG R l, u.oneCell' = true := by
  intro u hu
  obtain ⟨c, _, h⟩ := List.mem_flatMap.1 hu
  exact R.one c u h
theorem flatG_take (l : List α) (k : Nat) : (flatG R l).take (k * R.sz) = flatG R (l.take k) := by
  induction l generalizing k with
  | nil => simp [flatG]
  | cons c l ih =>
    cases k with
    | zero => simp [flatG]
    | succ k =>
      rw [flatG_cons, List.take_succ_cons, flatG_cons, ← ih, List.take_append, R.len, List.take_of_length_le (by rw [R.len, Nat.add_mul]; omega)]
      congr 2
      rw [Nat.add_mul]; omega
theorem flatG_drop (l : List α) (k : Nat) : (flatG R l).drop (k * R.sz) = flatG R (l.drop k) := by
  induction l generalizing k with
  | nil => simp [flatG]
  | cons c l ih =>
    cases k with
    | zero => simp [flatG]
    | succ k =>
      rw [flatG_cons, List.drop_succ_cons, ← ih, List.drop_append, R.len, List.drop_eq_nil_of_le (by rw [R.len, Nat.add_mul]; omega), List.nil_append]
      congr 1
      rw [Nat.add_mul]; omega

/-- The slice with address A and length n holds the records l; they lie in block b, if there are any. -/
def RdG (w : World) (b : Nat) (A : Option Addr) (n : Nat) (l : List α) : Prop :=
  l.length = n ∧ (0 < n → ∃ o, A = some ⟨b, o, none⟩ ∧ b < w.heap.size ∧ ∀ j, j < n * R.sz → w.cell? ⟨b, o + j, none⟩ = (flatG R l)[j]?)
variable {R}
variable {S : Nat → Prop} {w w' : World} {b n : Nat} {A : Option Addr} {l : List α}
theorem RdG.nil (w : World) (b : Nat) (A : Option Addr) : RdG R w b A 0 [] := ⟨rfl, fun h => absurd h (by omega)⟩
theorem RdG.fr (h : RdG R w b A n l) (hf : Fr S w w') (hn : ¬ S b) : RdG R w' b A n l := by
  refine ⟨h.1, fun h0 => ?_⟩
  obtain ⟨o, rfl, hb, hc⟩ := h.2 h0
  exact ⟨o, rfl, Nat.lt_of_lt_of_le hb hf.size, fun j hj => (hf.cell (p := ⟨b, o + j, none⟩) hb hn).trans (hc j hj)⟩
theorem RdG.new (h : RdG R w b A n l) (hf : New w w') : RdG R w' b A n l := h.fr hf (fun h => h)
theorem RdG.low {w0 w'' : World} (h0 : RdG R w0 b A n l) (hn : New w0 w') (hf : Fr (fun k => w0.heap.size ≤ k) w' w'') : RdG R w'' b A n l := by
  refine ⟨h0.1, fun h => ?_⟩
  obtain ⟨o, rfl, hb, hc⟩ := h0.2 h
  refine ⟨o, rfl, Nat.lt_of_lt_of_le hb (Nat.le_trans hn.size hf.size), fun j hj => ?_⟩
  have hn' := hn.size
  rw [hf.cell (p := ⟨b, o + j, none⟩) (Nat.lt_of_lt_of_le hb hn') (by simp only; omega), hn.cell (p := ⟨b, o + j, none⟩) hb (fun h => h)]
  exact hc j hj
theorem RdG.base (h : RdG R w b A n l) (hn : 0 < n) : ∃ o, A = some ⟨b, o, none⟩ := by
  obtain ⟨o, h, _⟩ := h.2 hn
  exact ⟨o, h⟩
theorem RdG.of_own {base : Nat} {e : TypeId} {c : Nat} (h : w.ownsRow base e R.sz (.slice A n c) n (flatG R l)) (hl : l.length = n) (hA : ∀ k, (Value.slice A n c).ownBlock = some k → k = b) : RdG R w b A n l := by
  refine ⟨hl, fun hn => ?_⟩
  rcases h.2 with ⟨_, h0⟩ | ⟨g, cap, cur, hv, _, hh, _, _, _, ht⟩
  · omega
  · injection hv with hA'
    subst hA'
    have hg : g = b := hA g rfl
    subst hg
    refine ⟨0, rfl, Blk.lt hh, fun j hj => ?_⟩
    rw [Blk.cell hh, ← ht, List.getElem?_take, if_pos hj]
    simp
theorem own_sliceG {w : World} {base sz : Nat} {e : TypeId} {v : Value} {n : Nat} {xs : List Value} (h : w.ownsRow base e sz v n xs) : ∃ A c, v = .slice A n c ∧ n ≤ c ∧ c ≤ maxLen := by
  rcases h.2 with ⟨rfl, rfl⟩ | ⟨g, cap, cur, rfl, _, _, hc, hm, _⟩
  · exact ⟨none, 0, rfl, Nat.le_refl _, Nat.zero_le _⟩
  · exact ⟨_, cap, rfl, hc, hm⟩
theorem own_len {w : World} {base : Nat} {v : Value} {n : Nat} {l : List α} (h : w.ownsRow base R.ty R.sz v n (flatG R l)) : l.length = n := by
  have e := h.1
  rw [flatG_len] at e
  exact Nat.eq_of_mul_eq_mul_right R.pos e
theorem own_rdg {w : World} {base : Nat} {v : Value} {n : Nat} {l : List α} (h : w.ownsRow base R.ty R.sz v n (flatG R l)) : ∃ b A c, v = .slice A n c ∧ n ≤ c ∧ RdG R w b A n l := by
  have hl := own_len h
  obtain ⟨A, c, rfl, hc, _⟩ := own_sliceG h
  rcases A with _ | a
  · exact ⟨0, none, c, rfl, hc, RdG.of_own h hl (fun k hk => by simp [Value.ownBlock] at hk)⟩
  · exact ⟨a.block, _, c, rfl, hc, RdG.of_own h hl (fun k hk => by simpa [Value.ownBlock] using hk.symm)⟩

/-- The cells of a record of a slice. -/
theorem RdG.cells {o i : Nat} {c : α} (h : RdG R w b (some ⟨b, o, none⟩) n l) (hc : l[i]? = some c) : w.rangeAt b (o + i * R.sz) (R.ls c) := by
  obtain ⟨hl, e⟩ := List.getElem?_eq_some_iff.1 hc
  have hi : i < n := by rw [← h.1]; exact hl
  obtain ⟨o', ho', _, hcell⟩ := h.2 (by omega)
  obtain rfl : o = o' := by simpa using ho'
  intro j v hv
  have hj : j < R.sz := by
    have := (List.getElem?_eq_some_iff.1 hv).1
    rwa [R.len] at this
  have h1 : i * R.sz + j < n * R.sz := by
    have : (i + 1) * R.sz ≤ n * R.sz := Nat.mul_le_mul_right _ hi
    rw [Nat.add_mul] at this
    omega
  rw [Nat.add_assoc, hcell (i * R.sz + j) h1, flatG_at R l i j hl hj, e]
  exact hv
theorem run_load1 {ty : TypeId} {k : IntKind} (hu : Tryd.prog.underlying ty = some (.int k)) {b o : Nat} {v : Value} (hc : w.cell? ⟨b, o, none⟩ = some v) : (Instr.loadAt ty (.pointer (some ⟨b, o, none⟩))).run Tryd.prog w = .ok v w := by
  have hn : (isAgg ty).run Tryd.prog w = .ok false w := by simp [isAgg, run_underlying hu]
  simp only [Instr.loadAt, Instr.sureAddr, loadVar, Sem.run_bind, Sem.run_pure, Result.andThen_ok, hn]
  rw [if_neg (by decide), run_load, hc]
section
variable {ρ : Operand → Value} {o : Oper} {x : Operand}
/-- A record is loaded from a slice. -/
theorem rn_loadG {off o0 i : Nat} {c : α} (hr : RdG R w b (some ⟨b, o0, none⟩) n l) (h : o.op = .load R.ty x) (hx : ρ x = .pointer (some ⟨b, off, none⟩)) (hoff : off = o0 + i * R.sz) (hc : l[i]? = some c) :
    (execOp ρ o).run Tryd.prog w = .ok (.value (.agg (R.ls c).toArray)) w := by
  subst hoff
  obtain ⟨d, hu, hd⟩ := R.row
  obtain ⟨inf, hi, _, hz1, _⟩ := info_parts R.info
  have hs : (Tryd.prog.info? R.ty).map (·.size) = some (R.ls c).length := by rw [hi, R.len]; simp [hz1]
  unfold execOp
  simp only [h, hx, run_loadAt_mid w b (o0 + i * R.sz) R.ty (R.ls c) _ (hr.cells hc) hu hd hs, Sem.run_bind, Sem.run_pure, Result.andThen_ok]
/-- A number is loaded from a record of a slice. -/
theorem rn_loadG1 {ty : TypeId} {k : IntKind} {off o0 i j : Nat} {c : α} {v : Value} (hr : RdG R w b (some ⟨b, o0, none⟩) n l) (hu : Tryd.prog.underlying ty = some (.int k)) (h : o.op = .load ty x) (hx : ρ x = .pointer (some ⟨b, off, none⟩)) (hoff : off = o0 + i * R.sz + j) (hc : l[i]? = some c) (hv : (R.ls c)[j]? = some v) :
    (execOp ρ o).run Tryd.prog w = .ok (.value v) w := by
  subst hoff
  unfold execOp
  simp only [h, hx, run_load1 hu ((hr.cells hc) j v hv), Sem.run_bind, Sem.run_pure, Result.andThen_ok]
/-- A row is loaded from a record of a slice. -/
theorem rn_loadGp {ty : TypeId} {d : TypeDesc} {off o0 i j : Nat} {c : α} {vs : List Value} (hr : RdG R w b (some ⟨b, o0, none⟩) n l) (hu : Tryd.prog.underlying ty = some d) (hd : d.isRow = true) (hs : (Tryd.prog.info? ty).map (·.size) = some vs.length) (h : o.op = .load ty x) (hx : ρ x = .pointer (some ⟨b, off, none⟩)) (hoff : off = o0 + i * R.sz + j) (hc : l[i]? = some c) (hv : ((R.ls c).drop j).take vs.length = vs) :
    (execOp ρ o).run Tryd.prog w = .ok (.value (.agg vs.toArray)) w := by
  subst hoff
  have hR : w.rangeAt b (o0 + i * R.sz + j) vs := fun q v hq => by
    rw [Nat.add_assoc]
    refine hr.cells hc (j + q) v ?_
    rw [← hv] at hq
    rw [List.getElem?_take] at hq
    split at hq
    · rwa [List.getElem?_drop] at hq
    · cases hq
  unfold execOp
  simp only [h, hx, run_loadAt_mid w b _ ty vs _ hR hu hd hs, Sem.run_bind, Sem.run_pure, Result.andThen_ok]
end

/-- A block reads as a slice of records. -/
theorem rdg_lit (w : World) (l : List α) (cs : Array Value) (h : cs.toList = flatG R l) (n : Nat) (hn : l.length = n) : RdG R (w.alloc (.cells cs R.ty)) w.heap.size (some ⟨w.heap.size, 0, none⟩) n l :=
  ⟨hn, fun _ => ⟨0, rfl, by simp, fun j _ => by
    rw [Nat.zero_add, (Blk.new w R.ty cs).cell j, ← h]
    simp⟩⟩
theorem rdg_blk {g : Nat} {t : TypeId} {cs : Array Value} (hB : Blk w g t cs) (h : cs.toList = flatG R l) (hn : l.length = n) : RdG R w g (some ⟨g, 0, none⟩) n l :=
  ⟨hn, fun _ => ⟨0, rfl, hB.lt, fun j _ => by
    rw [Nat.zero_add, hB.cell j, ← h]
    simp⟩⟩

/-- append of records onto a row of the call's own, whatever the source is. -/
theorem run_appendG (w : World) (base : Nat) (ty : TypeId) (v : Value) (n : Nat) (l : List α) (hown : w.ownsRow base R.ty R.sz v n (flatG R l))
    (b : Nat) (A : Option Addr) (m c : Nat) (news : List α) (hr : RdG R w b A m news) (hnm : n + m ≤ 100000000) (hbase : base ≤ w.heap.size) :
    ∃ v' w', (Builtin.append_ #[R.sl, R.sl] ty #[v, .slice A m c]).run Tryd.prog w = .ok v' w' ∧ w'.ownsRow base R.ty R.sz v' (n + m) (flatG R (l ++ news)) ∧ w.grownBy w' v.ownBlock := by
  obtain ⟨i, hi, hz, hsize, hby⟩ := info_parts R.info
  have ht := R.und
  have hmb : (n + m) * R.by_ ≤ 140737488355328 := Nat.le_trans (Nat.mul_le_mul hnm R.small) (by decide)
  rcases Nat.eq_zero_or_pos m with rfl | hm
  · have hn : news = [] := List.eq_nil_of_length_eq_zero hr.1
    subst hn
    rcases A with _ | ad
    · refine ⟨v, w, ?_, by simpa using hown, ⟨rfl, rfl, rfl, Nat.le_refl _, fun _ _ _ => rfl⟩⟩
      rcases hown.2 with ⟨rfl, rfl⟩ | ⟨g, cap, cur, rfl, _, _, hnc, _⟩
      · simp [Builtin.append_, run_underlying ht, sizeOf, typeInfo, hi, Builtin.lenOf, Builtin.firstCells]
      · simp [Builtin.append_, run_underlying ht, sizeOf, typeInfo, hi, Builtin.lenOf, Builtin.firstCells, hnc, storeCells]
    · obtain ⟨v', w', h2, h3, h4, _, h5⟩ := run_append_own_at (P := Tryd.prog) w base R.sl ty R.ty i _ R.sz R.by_ ht hi hz hsize hby R.zc R.pos v n (flatG R l) hown ad 0 c [] (by simp) (by simp) (by simp) (by unfold maxLen; omega) (by simpa using hmb) hbase
      exact ⟨v', w', h2, by simpa using h3, h4⟩
  · obtain ⟨o, rfl, _, hc⟩ := hr.2 hm
    obtain ⟨v', w', h2, h3, h4, _, h5⟩ := run_append_own_at (P := Tryd.prog) w base R.sl ty R.ty i _ R.sz R.by_ ht hi hz hsize hby R.zc R.pos v n (flatG R l) hown ⟨b, o, none⟩ m c (flatG R news) (by rw [flatG_len, hr.1]) (fun j u hu => by
      have hj : j < m * R.sz := by
        have := (List.getElem?_eq_some_iff.1 hu).1
        rw [flatG_len, hr.1] at this
        exact this
      rw [addr_add, hc j hj, hu]) (flatG_one R news) (by unfold maxLen; omega) hmb hbase
    exact ⟨v', w', h2, by rw [flatG_append]; exact h3, h4⟩
section
variable {ops : Array Oper} {Q : Exit → Act → World → Prop} {a : Act} {rest : List Oper} {o : Oper} {N k : Nat} {F : List (Nat × Value)}
theorem lAppG {s x : Operand} {base m c : Nat} {v : Value} {news : List α} (hown : w.ownsRow base R.ty R.sz v n (flatG R l)) (hr : RdG R w b A m news) (he : Env N F a) (hd : o.dst = some k) (hk : Nat.blt k N = true) (hw : Region.wanted o (yielded ops a.tmps) = true)
    (ho : o.op = .call { callee := .builtin .append, args := #[s, x], argTypes := #[R.sl, R.sl] }) (hs : evO F s = some v)
    (hx : evO F x = some (.slice A m c)) (hnm : n + m ≤ 100000000) (hbase : base ≤ w.heap.size)
    (next : ∀ v' w' a', w'.ownsRow base R.ty R.sz v' (n + m) (flatG R (l ++ news)) → w.grownBy w' v.ownBlock → Env N ((k, v') :: F) a' → wpList Tryd.prog ops Q rest a' w') : wpList Tryd.prog ops Q (o :: rest) a w := by
  obtain ⟨v', w', hrun, h2, h3⟩ := run_appendG w base o.type v n l hown b A m c news hr hnm hbase
  refine wpList_step fun K hK => ?_
  rw [if_pos hw]
  unfold Oper.wp execOp
  simp only [ho, resolve, invoke, builtin, Sem.run_bind, Sem.run_pure, Result.andThen_ok, List.map_toArray, List.map_cons, List.map_nil, he.op hs, he.op hx, hrun]
  exact hK _ _ (by rw [hd]; exact next _ _ _ h2 h3 (he.put hk v'))
end
end
end Go.Proofs.YtaiijndldngnkaaDoor
namespace Go.Proofs.YtaiijndldngnkaaDoor
open Go.RowKit

abbrev Wd.cs (x : Wd) : Array Value := #[.int .u64 x.a, .int .u64 x.b, .int .u64 x.c]
abbrev Wd.v (x : Wd) : Value := .agg x.cs
abbrev Rn.cs (x : Rn) : Array Value := #[.int .i64 x.n, .int .u64 x.w.a, .int .u64 x.w.b, .int .u64 x.w.c]
abbrev Rn.v (x : Rn) : Value := .agg x.cs
def Rn.ls (x : Rn) : List Value := [.int .i64 x.n, .int .u64 x.w.a, .int .u64 x.w.b, .int .u64 x.w.c]

theorem undR : Tryd.prog.underlying 67 = some (.struct (Tryd.prog.fieldsOf 67)) := by kernel_rfl
theorem heldR : Tryd.prog.stoodInHeld 67 = false := by kernel_rfl
theorem guardR : Tryd.prog.eqGuardType Tryd.prog.depth 67 = false := by kernel_rfl
theorem guardW : Tryd.prog.eqGuardType Tryd.prog.depth 34 = false := by kernel_rfl
theorem fieldsR : (Tryd.prog.fieldsOf 67).toList.map (fun f => (f.name, f.type, f.offset)) = [("Count", 3, 0), ("Words", 34, 1)] := by kernel_rfl
theorem cells3w : Tryd.prog.cellsOf 34 = 3 := by kernel_rfl
theorem cells1x : Tryd.prog.cellsOf 33 = 1 := by kernel_rfl
theorem infoW3 : (Tryd.prog.info? 34).map (·.size) = some 3 := by kernel_rfl
theorem infoR4 : (Tryd.prog.info? 67).map (·.size) = some 4 := by kernel_rfl
theorem infoM3 : (Tryd.prog.info? 22).map (·.size) = some 3 := by kernel_rfl

/-- Runs as records. -/
def rR : Rec Rn where
  sz := 4
  ty := 67
  sl := 43
  ls := Rn.ls
  z := zeroR.v
  by_ := 32
  len _ := rfl
  pos := by decide
  one x u hu := by
    simp only [Rn.ls, List.mem_cons, List.not_mem_nil, or_false] at hu
    rcases hu with h | h | h | h <;> subst h <;> rfl
  info := by kernel_rfl
  zc := rfl
  small := by decide
  und := Tryd.underlying43
  row := ⟨_, undR, rfl⟩
abbrev RdR (w : World) (b : Nat) (A : Option Addr) (n : Nat) (l : List Rn) : Prop := RdG rR w b A n l

theorem agg_w3 (w : World) : (isAgg 34).run Tryd.prog w = .ok true w := by simp [isAgg, run_underlying Tryd.underlying34]
theorem parts2 {α β : Type} (g : α → β) (l : List α) {b0 b1 : β} (h : l.map g = [b0, b1]) : ∃ a0 a1, l = [a0, a1] ∧ g a0 = b0 ∧ g a1 = b1 := by
  match l, h with
  | [a0, a1], h => simp at h; exact ⟨a0, a1, rfl, h⟩
theorem eq_w3 (n : Nat) (x y : Wd) (w : World) : (Op.equalIn (n + 2) 34 (.agg x.cs) (.agg y.cs)).run Tryd.prog w = .ok (decide (x = y)) w := by
  obtain ⟨a, b, c⟩ := x
  obtain ⟨d, e, f⟩ := y
  obtain ⟨i, hi⟩ := info_of_underlying Tryd.underlying33
  have h1 := run_equalIn_array w (n + 1) #[.int .u64 a, .int .u64 b, .int .u64 c] #[.int .u64 d, .int .u64 e, .int .u64 f] Tryd.underlying34 hi
  refine h1.trans ?_
  have p0 : ∀ (x y z : Int) (w : World), (part 33 #[.int .u64 x, .int .u64 y, .int .u64 z] 0).run Tryd.prog w = .ok (.int .u64 x) w := fun x y z w => part_int Tryd.underlying33 #[.int .u64 x, .int .u64 y, .int .u64 z] 0 _ rfl w
  have p1 : ∀ (x y z : Int) (w : World), (part 33 #[.int .u64 x, .int .u64 y, .int .u64 z] 1).run Tryd.prog w = .ok (.int .u64 y) w := fun x y z w => part_int Tryd.underlying33 #[.int .u64 x, .int .u64 y, .int .u64 z] 1 _ rfl w
  have p2 : ∀ (x y z : Int) (w : World), (part 33 #[.int .u64 x, .int .u64 y, .int .u64 z] 2).run Tryd.prog w = .ok (.int .u64 z) w := fun x y z w => part_int Tryd.underlying33 #[.int .u64 x, .int .u64 y, .int .u64 z] 2 _ rfl w
  have e0 : ∀ (x y : Int) (w : World), (Op.equalIn (n + 1) 33 (.int .u64 x) (.int .u64 y)).run Tryd.prog w = .ok (x == y) w := fun x y w => run_equalIn_int w n _ .u64 .u64 x y Tryd.underlying33
  rw [cells1x]
  show (Op.eqItems (n + 1) 33 1 _ _ [0, 1, 2]).run _ _ = _
  simp only [Op.eqItems, Sem.run_bind, p0, e0, Result.andThen_ok, Nat.zero_mul, Wd.mk.injEq]
  cases h : a == d <;> cases h' : b == e <;> cases h'' : c == f <;> simp [p1, p2, e0, h', h''] <;> simp_all
theorem eq_run (n : Nat) (x y : Rn) (w : World) : (Op.equalIn (n + 3) 67 (.agg x.cs) (.agg y.cs)).run Tryd.prog w = .ok (decide (x = y)) w := by
  obtain ⟨f0, f1, hl, h0, h1⟩ := parts2 _ _ fieldsR
  rw [run_equalIn_agg w (n + 2) 67 _ _ undR heldR, hl]
  have pw := fun xs o v h => part_int Tryd.underlying3 xs o v h w
  have ew := fun a b => run_equalIn_int (P := Tryd.prog) w (n + 1) 3 .i64 .i64 a b Tryd.underlying3
  have pm : ∀ c : Rn, (part 34 #[.int .i64 c.n, .int .u64 c.w.a, .int .u64 c.w.b, .int .u64 c.w.c] 1).run Tryd.prog w = .ok (.agg c.w.cs) w := fun c => part_agg agg_w3 (info_of_underlying Tryd.underlying34) cells3w _ _ _
  rw [eqFields_cons _ _ _ f0 _ h0 (by decide) _ _ _ w (pw _ 0 _ rfl) (pw _ 0 _ rfl) (ew _ _),
    eqFields_cons _ _ _ f1 _ h1 (by decide) _ _ _ w (pm x) (pm y) (eq_w3 n _ _ w)]
  simp only [Op.eqFields, Sem.run_pure]
  obtain ⟨a, b⟩ := x
  obtain ⟨c, d⟩ := y
  simp only [Rn.mk.injEq, beq_iff_eq, decide_eq_true_eq]
  split <;> rename_i e0
  · split <;> rename_i e1
    · simp [e0, e1]
    · simp [e1]
  · simp [e0]

section
variable {ρ : Operand → Value} {o : Oper} {x y : Operand}
/-- A number out of a block. -/
theorem rn_ld1 {ty : TypeId} {k : IntKind} {g off : Nat} {t : TypeId} {cs : Array Value} {v : Value} {w : World} (h : o.op = .load ty x) (hx : ρ x = .pointer (some ⟨g, off, none⟩)) (hu : Tryd.prog.underlying ty = some (.int k)) (hB : Blk w g t cs) (hv : cs[off]? = some v) :
    (execOp ρ o).run Tryd.prog w = .ok (.value v) w := by
  unfold execOp
  simp only [h, hx, run_load1 hu ((hB.cell off).trans hv), Sem.run_bind, Sem.run_pure, Result.andThen_ok]
/-- A row out of a block. -/
theorem rn_ldp {ty : TypeId} {d : TypeDesc} {g off : Nat} {t : TypeId} {cs : Array Value} (vs : List Value) {w : World} (h : o.op = .load ty x) (hx : ρ x = .pointer (some ⟨g, off, none⟩)) (hu : Tryd.prog.underlying ty = some d) (hd : d.isRow = true) (hs : (Tryd.prog.info? ty).map (·.size) = some vs.length) (hB : Blk w g t cs) (hv : (cs.toList.drop off).take vs.length = vs) :
    (execOp ρ o).run Tryd.prog w = .ok (.value (.agg vs.toArray)) w := by
  have hR : w.rangeAt g off vs := fun q v hq => by
    rw [hB.cell (off + q)]
    rw [← hv, List.getElem?_take] at hq
    split at hq
    · rw [List.getElem?_drop] at hq
      simpa using hq
    · cases hq
  unfold execOp
  simp only [h, hx, run_loadAt_mid w g off ty vs _ hR hu hd hs, Sem.run_bind, Sem.run_pure, Result.andThen_ok]
theorem rn_loadW {g : Nat} {t : TypeId} {c : Wd} {w : World} (h : o.op = .load 34 x) (hx : ρ x = .pointer (some ⟨g, 0, none⟩)) (hB : Blk w g t c.cs) : (execOp ρ o).run Tryd.prog w = .ok (.value c.v) w :=
  rn_ldp [.int .u64 c.a, .int .u64 c.b, .int .u64 c.c] h hx Tryd.underlying34 rfl infoW3 hB rfl
theorem rn_loadR {g : Nat} {t : TypeId} {c : Rn} {w : World} (h : o.op = .load 67 x) (hx : ρ x = .pointer (some ⟨g, 0, none⟩)) (hB : Blk w g t c.cs) : (execOp ρ o).run Tryd.prog w = .ok (.value c.v) w :=
  rn_ldp [.int .i64 c.n, .int .u64 c.w.a, .int .u64 c.w.b, .int .u64 c.w.c] h hx undR rfl infoR4 hB rfl
/-- The count and the words of a run in a block. -/
theorem rn_loadRn {g : Nat} {t : TypeId} {c : Rn} {w : World} (h : o.op = .load 3 x) (hx : ρ x = .pointer (some ⟨g, 0, none⟩)) (hB : Blk w g t c.cs) : (execOp ρ o).run Tryd.prog w = .ok (.value (.int .i64 c.n)) w :=
  rn_ld1 h hx Tryd.underlying3 hB rfl
theorem rn_loadRw {g : Nat} {t : TypeId} {c : Rn} {w : World} (h : o.op = .load 34 x) (hx : ρ x = .pointer (some ⟨g, 1, none⟩)) (hB : Blk w g t c.cs) : (execOp ρ o).run Tryd.prog w = .ok (.value c.w.v) w :=
  rn_ldp [.int .u64 c.w.a, .int .u64 c.w.b, .int .u64 c.w.c] h hx Tryd.underlying34 rfl infoW3 hB rfl
/-- A run, its count, its words out of a slice. -/
theorem rn_sR {w : World} {b off o0 i n : Nat} {l : List Rn} {c : Rn} (h : o.op = .load 67 x) (hx : ρ x = .pointer (some ⟨b, off, none⟩)) (hr : RdR w b (some ⟨b, o0, none⟩) n l) (hoff : off = o0 + i * 4) (hc : l[i]? = some c) : (execOp ρ o).run Tryd.prog w = .ok (.value c.v) w :=
  rn_loadG hr h hx hoff hc
theorem rn_sRn {w : World} {b off o0 i n : Nat} {l : List Rn} {c : Rn} (h : o.op = .load 3 x) (hx : ρ x = .pointer (some ⟨b, off, none⟩)) (hr : RdR w b (some ⟨b, o0, none⟩) n l) (hoff : off = o0 + i * 4 + 0) (hc : l[i]? = some c) : (execOp ρ o).run Tryd.prog w = .ok (.value (.int .i64 c.n)) w :=
  rn_loadG1 (j := 0) hr Tryd.underlying3 h hx hoff hc rfl
theorem rn_sRw {w : World} {b off o0 i n : Nat} {l : List Rn} {c : Rn} (h : o.op = .load 34 x) (hx : ρ x = .pointer (some ⟨b, off, none⟩)) (hr : RdR w b (some ⟨b, o0, none⟩) n l) (hoff : off = o0 + i * 4 + 1) (hc : l[i]? = some c) : (execOp ρ o).run Tryd.prog w = .ok (.value c.w.v) w :=
  rn_loadGp (j := 1) (vs := [.int .u64 c.w.a, .int .u64 c.w.b, .int .u64 c.w.c]) hr Tryd.underlying34 rfl infoW3 h hx hoff hc rfl
theorem rn_lenR {A : Option Addr} {n c : Nat} (h : o.op = .call { callee := .builtin .len, args := #[x], argTypes := #[43] }) (hv : ρ x = .slice A n c) (w : World) : (execOp ρ o).run Tryd.prog w = .ok (.value (.int .i64 n)) w := by
  obtain ⟨dst, op, ty, pos, after, guard⟩ := o
  simp only at h
  subst h
  go_simp
theorem rn_idxR {A : Addr} {n c i : Nat} {p : Value} (h : o.op = .indexAddr 43 x y) (hx : ρ x = .slice (some A) n c) (hy : ρ y = .int .i64 i) (hi : i < n) (hp : .pointer (some (A.add (i * 4))) = p) (w : World) : (execOp ρ o).run Tryd.prog w = .ok (.value p) w := by
  subst hp
  obtain ⟨dst, op, ty, pos, after, guard⟩ := o
  simp only at h
  subst h
  go_simp
/-- The address of a field. -/
theorem rn_faR0 {g off : Nat} {p : Value} (h : o.op = .fieldAddr 67 x 0) (hx : ρ x = .pointer (some ⟨g, off, none⟩)) (hp : .pointer (some ⟨g, off + 0, none⟩) = p) (w : World) : (execOp ρ o).run Tryd.prog w = .ok (.value p) w := by
  subst hp
  unfold execOp
  simp only [h, hx]
  kernel_rfl
theorem rn_faR1 {g off : Nat} {p : Value} (h : o.op = .fieldAddr 67 x 1) (hx : ρ x = .pointer (some ⟨g, off, none⟩)) (hp : .pointer (some ⟨g, off + 1, none⟩) = p) (w : World) : (execOp ρ o).run Tryd.prog w = .ok (.value p) w := by
  subst hp
  unfold execOp
  simp only [h, hx]
  kernel_rfl
theorem rn_faC0 {g off : Nat} {p : Value} (h : o.op = .fieldAddr 30 x 0) (hx : ρ x = .pointer (some ⟨g, off, none⟩)) (hp : .pointer (some ⟨g, off + 0, none⟩) = p) (w : World) : (execOp ρ o).run Tryd.prog w = .ok (.value p) w := by
  subst hp
  unfold execOp
  simp only [h, hx]
  kernel_rfl
theorem rn_faC1 {g off : Nat} {p : Value} (h : o.op = .fieldAddr 30 x 1) (hx : ρ x = .pointer (some ⟨g, off, none⟩)) (hp : .pointer (some ⟨g, off + 1, none⟩) = p) (w : World) : (execOp ρ o).run Tryd.prog w = .ok (.value p) w := by
  subst hp
  unfold execOp
  simp only [h, hx]
  kernel_rfl
theorem rn_faC2 {g off : Nat} {p : Value} (h : o.op = .fieldAddr 30 x 2) (hx : ρ x = .pointer (some ⟨g, off, none⟩)) (hp : .pointer (some ⟨g, off + 4, none⟩) = p) (w : World) : (execOp ρ o).run Tryd.prog w = .ok (.value p) w := by
  subst hp
  unfold execOp
  simp only [h, hx]
  kernel_rfl
theorem rn_faC3 {g off : Nat} {p : Value} (h : o.op = .fieldAddr 30 x 3) (hx : ρ x = .pointer (some ⟨g, off, none⟩)) (hp : .pointer (some ⟨g, off + 5, none⟩) = p) (w : World) : (execOp ρ o).run Tryd.prog w = .ok (.value p) w := by
  subst hp
  unfold execOp
  simp only [h, hx]
  kernel_rfl
theorem rn_iaW0 {g off : Nat} {p : Value} (h : o.op = .indexAddr 34 x (.const (.int .i64 0))) (hx : ρ x = .pointer (some ⟨g, off, none⟩)) (hc : ∀ v, ρ (.const v) = v) (hp : .pointer (some ⟨g, off + 0, none⟩) = p) (w : World) : (execOp ρ o).run Tryd.prog w = .ok (.value p) w := by
  subst hp
  unfold execOp
  simp only [h, hx, hc]
  kernel_rfl
theorem rn_iaM0 {g off : Nat} {p : Value} (h : o.op = .indexAddr 22 x (.const (.int .i64 0))) (hx : ρ x = .pointer (some ⟨g, off, none⟩)) (hc : ∀ v, ρ (.const v) = v) (hp : .pointer (some ⟨g, off + 0, none⟩) = p) (w : World) : (execOp ρ o).run Tryd.prog w = .ok (.value p) w := by
  subst hp
  unfold execOp
  simp only [h, hx, hc]
  kernel_rfl
theorem rn_iaW1 {g off : Nat} {p : Value} (h : o.op = .indexAddr 34 x (.const (.int .i64 1))) (hx : ρ x = .pointer (some ⟨g, off, none⟩)) (hc : ∀ v, ρ (.const v) = v) (hp : .pointer (some ⟨g, off + 1, none⟩) = p) (w : World) : (execOp ρ o).run Tryd.prog w = .ok (.value p) w := by
  subst hp
  unfold execOp
  simp only [h, hx, hc]
  kernel_rfl
theorem rn_iaM1 {g off : Nat} {p : Value} (h : o.op = .indexAddr 22 x (.const (.int .i64 1))) (hx : ρ x = .pointer (some ⟨g, off, none⟩)) (hc : ∀ v, ρ (.const v) = v) (hp : .pointer (some ⟨g, off + 1, none⟩) = p) (w : World) : (execOp ρ o).run Tryd.prog w = .ok (.value p) w := by
  subst hp
  unfold execOp
  simp only [h, hx, hc]
  kernel_rfl
theorem rn_iaW2 {g off : Nat} {p : Value} (h : o.op = .indexAddr 34 x (.const (.int .i64 2))) (hx : ρ x = .pointer (some ⟨g, off, none⟩)) (hc : ∀ v, ρ (.const v) = v) (hp : .pointer (some ⟨g, off + 2, none⟩) = p) (w : World) : (execOp ρ o).run Tryd.prog w = .ok (.value p) w := by
  subst hp
  unfold execOp
  simp only [h, hx, hc]
  kernel_rfl
theorem rn_iaM2 {g off : Nat} {p : Value} (h : o.op = .indexAddr 22 x (.const (.int .i64 2))) (hx : ρ x = .pointer (some ⟨g, off, none⟩)) (hc : ∀ v, ρ (.const v) = v) (hp : .pointer (some ⟨g, off + 2, none⟩) = p) (w : World) : (execOp ρ o).run Tryd.prog w = .ok (.value p) w := by
  subst hp
  unfold execOp
  simp only [h, hx, hc]
  kernel_rfl
theorem rn_bW {x y z : Operand} {a b c : Int} (h : o.op = .build 34 #[(0, x), (1, y), (2, z)]) (hx : ρ x = .int .u64 a) (hy : ρ y = .int .u64 b) (hz : ρ z = .int .u64 c) (w : World) : (execOp ρ o).run Tryd.prog w = .ok (.value (Wd.v ⟨a, b, c⟩)) w := by
  unfold execOp
  simp only [h, List.map_toArray, List.map_cons, List.map_nil, hx, hy, hz]
  kernel_rfl
theorem rn_bW0 (h : o.op = .build 34 #[]) (w : World) : (execOp ρ o).run Tryd.prog w = .ok (.value (Wd.v zeroW)) w := by
  unfold execOp
  simp only [h, List.map_toArray, List.map_nil]
  kernel_rfl
theorem rn_bC0 (h : o.op = .build 30 #[]) (w : World) : (execOp ρ o).run Tryd.prog w = .ok (.value (Ce.v zeroCe)) w := by
  unfold execOp
  simp only [h, List.map_toArray, List.map_nil]
  kernel_rfl
theorem rn_bR {x y : Operand} {n : Int} {c : Wd} (h : o.op = .build 67 #[(0, x), (1, y)]) (hx : ρ x = .int .i64 n) (hy : ρ y = c.v) (w : World) : (execOp ρ o).run Tryd.prog w = .ok (.value (Rn.v ⟨n, c⟩)) w := by
  unfold execOp
  simp only [h, List.map_toArray, List.map_cons, List.map_nil, hx, hy]
  kernel_rfl
theorem rn_allocW (h : o.op = .alloc 34) (w : World) : (execOp ρ o).run Tryd.prog w = .ok (.value (.pointer (some ⟨w.heap.size, 0, none⟩))) (w.alloc (.cells zeroW.cs 34)) := by
  unfold execOp
  simp only [h]
  kernel_rfl
theorem rn_allocR (h : o.op = .alloc 67) (w : World) : (execOp ρ o).run Tryd.prog w = .ok (.value (.pointer (some ⟨w.heap.size, 0, none⟩))) (w.alloc (.cells zeroR.cs 67)) := by
  unfold execOp
  simp only [h]
  kernel_rfl
theorem rn_allocM (h : o.op = .alloc 22) (w : World) : (execOp ρ o).run Tryd.prog w = .ok (.value (.pointer (some ⟨w.heap.size, 0, none⟩))) (w.alloc (.cells #[.int .i32 0, .int .i32 0, .int .i32 0] 22)) := by
  unfold execOp
  simp only [h]
  kernel_rfl
theorem rn_allocP (h : o.op = .alloc 28) (w : World) : (execOp ρ o).run Tryd.prog w = .ok (.value (.pointer (some ⟨w.heap.size, 0, none⟩))) (w.alloc (.cells zeroP.cs 28)) := by
  unfold execOp
  simp only [h]
  kernel_rfl
theorem rn_boxW {c : Wd} (h : o.op = .box 34 x) (hx : ρ x = c.v) (w : World) : (execOp ρ o).run Tryd.prog w = .ok (.value (.pointer (some ⟨w.heap.size, 0, none⟩))) (w.alloc (.cells c.cs 34)) := by
  unfold execOp
  simp only [h, hx]
  kernel_rfl
theorem rn_boxR {c : Rn} (h : o.op = .box 67 x) (hx : ρ x = c.v) (w : World) : (execOp ρ o).run Tryd.prog w = .ok (.value (.pointer (some ⟨w.heap.size, 0, none⟩))) (w.alloc (.cells c.cs 67)) := by
  unfold execOp
  simp only [h, hx]
  kernel_rfl
theorem rn_boxM {a b c : Int} (h : o.op = .box 22 x) (hx : ρ x = .agg #[.int .i32 a, .int .i32 b, .int .i32 c]) (w : World) : (execOp ρ o).run Tryd.prog w = .ok (.value (.pointer (some ⟨w.heap.size, 0, none⟩))) (w.alloc (.cells #[.int .i32 a, .int .i32 b, .int .i32 c] 22)) := by
  unfold execOp
  simp only [h, hx]
  kernel_rfl
theorem bsr1 (x : Rn) (w : World) : (Instr.buildSlice 43 1 #[(0, .agg x.cs)]).run Tryd.prog w = .ok (.slice (some ⟨w.heap.size, 0, none⟩) 1 1) (w.alloc (.cells x.cs 67)) := by kernel_rfl
theorem rn_bsr1 {a : Operand} {x : Rn} (h : o.op = .buildSlice 43 1 #[(0, a)]) (ha : ρ a = x.v) (w : World) : (execOp ρ o).run Tryd.prog w = .ok (.value (.slice (some ⟨w.heap.size, 0, none⟩) 1 1)) (w.alloc (.cells x.cs 67)) := by
  unfold execOp
  have e := bsr1 x w
  simp only [h, List.map_toArray, List.map_cons, List.map_nil, ha, Sem.run_bind, e, Result.andThen_ok, Sem.run_pure]
theorem bsr0 (w : World) : (Instr.buildSlice 43 0 #[]).run Tryd.prog w = .ok (.slice (some ⟨w.heap.size, 0, none⟩) 0 0) (w.alloc (.cells #[] 67)) := by kernel_rfl
theorem rn_bsr0 (h : o.op = .buildSlice 43 0 #[]) (w : World) : (execOp ρ o).run Tryd.prog w = .ok (.value (.slice (some ⟨w.heap.size, 0, none⟩) 0 0)) (w.alloc (.cells #[] 67)) := by
  unfold execOp
  have e := bsr0 w
  simp only [h, List.map_toArray, List.map_nil, Sem.run_bind, e, Result.andThen_ok, Sem.run_pure]
theorem rn_addU {i j r : Int} (h : o.op = .binOp .add 33 x y 33) (hx : ρ x = .int .u64 i) (hy : ρ y = .int .u64 j) (hr : IntKind.u64.wrap (i + j) = r) (w : World) : (execOp ρ o).run Tryd.prog w = .ok (.value (.int .u64 r)) w := by
  subst hr
  obtain ⟨dst, op, ty, pos, after, guard⟩ := o
  simp only at h
  subst h
  go_simp
theorem rn_mulU {i j r : Int} (h : o.op = .binOp .mul 33 x y 33) (hx : ρ x = .int .u64 i) (hy : ρ y = .int .u64 j) (hr : IntKind.u64.wrap (i * j) = r) (w : World) : (execOp ρ o).run Tryd.prog w = .ok (.value (.int .u64 r)) w := by
  subst hr
  obtain ⟨dst, op, ty, pos, after, guard⟩ := o
  simp only at h
  subst h
  go_simp
theorem rn_orU {i j r : Int} (h : o.op = .binOp .or 33 x y 33) (hx : ρ x = .int .u64 i) (hy : ρ y = .int .u64 j) (hr : bits .or .u64 i j = r) (w : World) : (execOp ρ o).run Tryd.prog w = .ok (.value (.int .u64 r)) w := by
  subst hr
  obtain ⟨dst, op, ty, pos, after, guard⟩ := o
  simp only at h
  subst h
  go_simp
theorem rn_andU {i j r : Int} (h : o.op = .binOp .and 33 x y 33) (hx : ρ x = .int .u64 i) (hy : ρ y = .int .u64 j) (hr : bits .and .u64 i j = r) (w : World) : (execOp ρ o).run Tryd.prog w = .ok (.value (.int .u64 r)) w := by
  subst hr
  obtain ⟨dst, op, ty, pos, after, guard⟩ := o
  simp only at h
  subst h
  go_simp
theorem rn_subI {i j r : Int} (h : o.op = .binOp .sub 3 x y 3) (hx : ρ x = .int .i64 i) (hy : ρ y = .int .i64 j) (hr : IntKind.i64.wrap (i - j) = r) (w : World) : (execOp ρ o).run Tryd.prog w = .ok (.value (.int .i64 r)) w := by
  subst hr
  obtain ⟨dst, op, ty, pos, after, guard⟩ := o
  simp only at h
  subst h
  go_simp
theorem rn_mulI {i j r : Int} (h : o.op = .binOp .mul 3 x y 3) (hx : ρ x = .int .i64 i) (hy : ρ y = .int .i64 j) (hr : IntKind.i64.wrap (i * j) = r) (w : World) : (execOp ρ o).run Tryd.prog w = .ok (.value (.int .i64 r)) w := by
  subst hr
  obtain ⟨dst, op, ty, pos, after, guard⟩ := o
  simp only at h
  subst h
  go_simp
end
end Go.Proofs.YtaiijndldngnkaaDoor
namespace Go.Proofs.YtaiijndldngnkaaDoor
open Go.RowKit

section
variable {ρ : Operand → Value} {o : Oper} {x y : Operand}
theorem rn_mv {x : Operand} {v : Value} (h : o.op = .move x) (hv : ρ x = v) (w : World) : (execOp ρ o).run Tryd.prog w = .ok (.value v) w := by
  subst hv
  unfold execOp
  simp only [h]
  kernel_rfl
theorem rn_asg {x : Operand} {v : Value} (h : o.op = .assign x) (hv : ρ x = v) (w : World) : (execOp ρ o).run Tryd.prog w = .ok (.value v) w := by
  subst hv
  unfold execOp
  simp only [h]
  kernel_rfl
theorem rn_pk {x y z : Operand} {v : Value} (h : o.op = .pick x y z) (hc : ρ x = .bool true) (hv : ρ y = v) (w : World) : (execOp ρ o).run Tryd.prog w = .ok (.value v) w := by
  subst hv
  unfold execOp
  simp only [h, hc]
  kernel_rfl
theorem rn_cvIU {i r : Int} (h : o.op = .convert 21 33 x) (hx : ρ x = .int .i32 i) (hr : IntKind.u64.wrap i = r) (w : World) : (execOp ρ o).run Tryd.prog w = .ok (.value (.int .u64 r)) w := by
  subst hr
  obtain ⟨dst, op, ty, pos, after, guard⟩ := o
  simp only at h
  subst h
  go_simp
theorem rn_cvWU {i r : Int} (h : o.op = .convert 3 33 x) (hx : ρ x = .int .i64 i) (hr : IntKind.u64.wrap i = r) (w : World) : (execOp ρ o).run Tryd.prog w = .ok (.value (.int .u64 r)) w := by
  subst hr
  obtain ⟨dst, op, ty, pos, after, guard⟩ := o
  simp only at h
  subst h
  go_simp
theorem rn_cvUI {i r : Int} (h : o.op = .convert 33 21 x) (hx : ρ x = .int .u64 i) (hr : IntKind.i32.wrap i = r) (w : World) : (execOp ρ o).run Tryd.prog w = .ok (.value (.int .i32 r)) w := by
  subst hr
  obtain ⟨dst, op, ty, pos, after, guard⟩ := o
  simp only at h
  subst h
  go_simp
theorem rn_cvUW {i r : Int} (h : o.op = .convert 33 3 x) (hx : ρ x = .int .u64 i) (hr : IntKind.i64.wrap i = r) (w : World) : (execOp ρ o).run Tryd.prog w = .ok (.value (.int .i64 r)) w := by
  subst hr
  obtain ⟨dst, op, ty, pos, after, guard⟩ := o
  simp only at h
  subst h
  go_simp
set_option linter.unusedSimpArgs false in
theorem rn_shlU {i r : Int} (k : Nat) (h : o.op = .binOp .shl 33 x y 88) (hx : ρ x = .int .u64 i) (hy : ρ y = .int .u64 (k : Int)) (hk : k ≤ 64) (hr : IntKind.u64.wrap (i * 2 ^ k) = r) (w : World) : (execOp ρ o).run Tryd.prog w = .ok (.value (.int .u64 r)) w := by
  subst hr
  have e : (Op.shift .shl .u64 i .u64 (k : Int)).run Tryd.prog w = .ok (.int .u64 (IntKind.u64.wrap (i * 2 ^ k))) w := by
    unfold Op.shift
    rw [if_neg (by omega), show min ((k : Int)).toNat IntKind.u64.bits = k by rw [Int.toNat_natCast]; exact Nat.min_eq_left hk]
    rfl
  unfold execOp
  simp only [h, hx, hy, binOp, Sem.run_bind, eqGuard, Bool.not_false, if_true, e, Result.andThen_ok, Sem.run_pure]
set_option linter.unusedSimpArgs false in
theorem rn_shlI {i r : Int} (k : Nat) (h : o.op = .binOp .shl 33 x y 3) (hx : ρ x = .int .u64 i) (hy : ρ y = .int .i64 (k : Int)) (hk : k ≤ 64) (hr : IntKind.u64.wrap (i * 2 ^ k) = r) (w : World) : (execOp ρ o).run Tryd.prog w = .ok (.value (.int .u64 r)) w := by
  subst hr
  have e : (Op.shift .shl .u64 i .i64 (k : Int)).run Tryd.prog w = .ok (.int .u64 (IntKind.u64.wrap (i * 2 ^ k))) w := by
    unfold Op.shift
    rw [if_neg (by omega), show min ((k : Int)).toNat IntKind.u64.bits = k by rw [Int.toNat_natCast]; exact Nat.min_eq_left hk]
    rfl
  unfold execOp
  simp only [h, hx, hy, binOp, Sem.run_bind, eqGuard, Bool.not_false, if_true, e, Result.andThen_ok, Sem.run_pure]
set_option linter.unusedSimpArgs false in
theorem rn_shrU {i r : Int} (k : Nat) (h : o.op = .binOp .shr 33 x y 88) (hx : ρ x = .int .u64 i) (hy : ρ y = .int .u64 (k : Int)) (hk : k ≤ 64) (hr : i.fdiv (2 ^ k) = r) (w : World) : (execOp ρ o).run Tryd.prog w = .ok (.value (.int .u64 r)) w := by
  subst hr
  have e : (Op.shift .shr .u64 i .u64 (k : Int)).run Tryd.prog w = .ok (.int .u64 (i.fdiv (2 ^ k))) w := by
    unfold Op.shift
    rw [if_neg (by omega), show min ((k : Int)).toNat IntKind.u64.bits = k by rw [Int.toNat_natCast]; exact Nat.min_eq_left hk]
    rfl
  unfold execOp
  simp only [h, hx, hy, binOp, Sem.run_bind, eqGuard, Bool.not_false, if_true, e, Result.andThen_ok, Sem.run_pure]
set_option linter.unusedSimpArgs false in
theorem rn_shrI {i r : Int} (k : Nat) (h : o.op = .binOp .shr 33 x y 3) (hx : ρ x = .int .u64 i) (hy : ρ y = .int .i64 (k : Int)) (hk : k ≤ 64) (hr : i.fdiv (2 ^ k) = r) (w : World) : (execOp ρ o).run Tryd.prog w = .ok (.value (.int .u64 r)) w := by
  subst hr
  have e : (Op.shift .shr .u64 i .i64 (k : Int)).run Tryd.prog w = .ok (.int .u64 (i.fdiv (2 ^ k))) w := by
    unfold Op.shift
    rw [if_neg (by omega), show min ((k : Int)).toNat IntKind.u64.bits = k by rw [Int.toNat_natCast]; exact Nat.min_eq_left hk]
    rfl
  unfold execOp
  simp only [h, hx, hy, binOp, Sem.run_bind, eqGuard, Bool.not_false, if_true, e, Result.andThen_ok, Sem.run_pure]
set_option linter.unusedSimpArgs false in
theorem rn_remU {i j r : Int} (h : o.op = .binOp .rem 33 x y 33) (hx : ρ x = .int .u64 i) (hy : ρ y = .int .u64 j) (h0 : 0 ≤ i) (hj : 0 < j) (hr : i % j = r) (w : World) : (execOp ρ o).run Tryd.prog w = .ok (.value (.int .u64 r)) w := by
  subst hr
  have e : (Op.intDiv .rem .u64 i j).run Tryd.prog w = .ok (.int .u64 (i % j)) w := by
    unfold Op.intDiv
    rw [if_neg (by omega)]
    simp only [Sem.run_pure]
    rw [Int.tmod_eq_emod_of_nonneg h0]
  unfold execOp
  simp only [h, hx, hy, binOp, Sem.run_bind, eqGuard, Bool.not_false, if_true, ne_eq, not_true_eq_false, if_false, e, Result.andThen_ok, Sem.run_pure]
set_option linter.unusedSimpArgs false in
theorem rn_quoU {i j r : Int} (h : o.op = .binOp .quo 33 x y 33) (hx : ρ x = .int .u64 i) (hy : ρ y = .int .u64 j) (h0 : 0 ≤ i) (hj : 0 < j) (h1 : i < 18446744073709551616) (hr : i / j = r) (w : World) : (execOp ρ o).run Tryd.prog w = .ok (.value (.int .u64 r)) w := by
  subst hr
  have e : (Op.intDiv .quo .u64 i j).run Tryd.prog w = .ok (.int .u64 (i / j)) w := by
    unfold Op.intDiv
    rw [if_neg (by omega)]
    simp only [Sem.run_pure]
    rw [Int.tdiv_eq_ediv_of_nonneg h0]
    have h2 : i / j ≤ i := Int.ediv_le_self _ h0
    have h3 : 0 ≤ i / j := Int.ediv_nonneg h0 (by omega)
    rw [u64_wraps _ h3 (by omega)]
  unfold execOp
  simp only [h, hx, hy, binOp, Sem.run_bind, eqGuard, Bool.not_false, if_true, ne_eq, not_true_eq_false, if_false, e, Result.andThen_ok, Sem.run_pure]
theorem rn_geqU {i j : Int} {b : Bool} (h : o.op = .binOp .geq 33 x y 33) (hx : ρ x = .int .u64 i) (hy : ρ y = .int .u64 j) (hb : decide (j ≤ i) = b) (w : World) : (execOp ρ o).run Tryd.prog w = .ok (.value (.bool b)) w := by
  subst hb
  obtain ⟨dst, op, ty, pos, after, guard⟩ := o
  simp only at h
  subst h
  go_simp
theorem rn_eqI {i j : Int} {b : Bool} (h : o.op = .binOp .eql 3 x y 3) (hx : ρ x = .int .i64 i) (hy : ρ y = .int .i64 j) (hb : (i == j) = b) (w : World) : (execOp ρ o).run Tryd.prog w = .ok (.value (.bool b)) w := by
  subst hb
  obtain ⟨dst, op, ty, pos, after, guard⟩ := o
  simp only at h
  subst h
  go_simp
theorem run_eqAgg {t : TypeId} {xs ys : Array Value} {b : Bool} {w : World} (hg : Tryd.prog.eqGuardType Tryd.prog.depth t = false) (he : (Op.equalIn 10000 t (.agg xs) (.agg ys)).run Tryd.prog w = .ok b w) (x y : Operand) (neg : Bool) :
    ((eqGuard (if neg then .neq else .eql) t x y (.agg xs) (.agg ys)).run Tryd.prog w = .ok () w) ∧ ((binOp (if neg then .neq else .eql) t (.agg xs) (.agg ys)).run Tryd.prog w = .ok (.bool (if neg then !b else b)) w) := by
  have he' : (Op.equal t (.agg xs) (.agg ys)).run Tryd.prog w = .ok b w := he
  cases neg
  · refine ⟨?_, ?_⟩
    · simp [eqGuard, hg]
    · simp [binOp, he']
  · refine ⟨?_, ?_⟩
    · simp [eqGuard, hg]
    · simp [binOp, he']
set_option linter.unusedSimpArgs false in
theorem rn_eqW {c d : Wd} {b : Bool} (h : o.op = .binOp .eql 34 x y 34) (hx : ρ x = c.v) (hy : ρ y = d.v) (hb : (decide (c = d)) = b) (w : World) : (execOp ρ o).run Tryd.prog w = .ok (.value (.bool b)) w := by
  subst hb
  obtain ⟨h1, h2⟩ := run_eqAgg (w := w) guardW (eq_w3 9998 c d w) x y false
  simp only [if_true, Bool.false_eq_true, if_false] at h1 h2
  unfold execOp
  simp only [h, hx, hy, Sem.run_bind, h1, h2, Result.andThen_ok, Sem.run_pure]
set_option linter.unusedSimpArgs false in
theorem rn_eqR {c d : Rn} {b : Bool} (h : o.op = .binOp .eql 67 x y 67) (hx : ρ x = c.v) (hy : ρ y = d.v) (hb : (decide (c = d)) = b) (w : World) : (execOp ρ o).run Tryd.prog w = .ok (.value (.bool b)) w := by
  subst hb
  obtain ⟨h1, h2⟩ := run_eqAgg (w := w) guardR (eq_run 9997 c d w) x y false
  simp only [if_true, Bool.false_eq_true, if_false] at h1 h2
  unfold execOp
  simp only [h, hx, hy, Sem.run_bind, h1, h2, Result.andThen_ok, Sem.run_pure]
set_option linter.unusedSimpArgs false in
theorem rn_eqC {c d : Ce} {b : Bool} (h : o.op = .binOp .eql 30 x y 30) (hx : ρ x = c.v) (hy : ρ y = d.v) (hb : (decide (c = d)) = b) (w : World) : (execOp ρ o).run Tryd.prog w = .ok (.value (.bool b)) w := by
  subst hb
  obtain ⟨h1, h2⟩ := run_eqAgg (w := w) guardC (eq_cell c d w) x y false
  simp only [if_true, Bool.false_eq_true, if_false] at h1 h2
  unfold execOp
  simp only [h, hx, hy, Sem.run_bind, h1, h2, Result.andThen_ok, Sem.run_pure]
set_option linter.unusedSimpArgs false in
theorem rn_neW {c d : Wd} {b : Bool} (h : o.op = .binOp .neq 34 x y 34) (hx : ρ x = c.v) (hy : ρ y = d.v) (hb : (!decide (c = d)) = b) (w : World) : (execOp ρ o).run Tryd.prog w = .ok (.value (.bool b)) w := by
  subst hb
  obtain ⟨h1, h2⟩ := run_eqAgg (w := w) guardW (eq_w3 9998 c d w) x y true
  simp only [if_true, Bool.false_eq_true, if_false] at h1 h2
  unfold execOp
  simp only [h, hx, hy, Sem.run_bind, h1, h2, Result.andThen_ok, Sem.run_pure]
set_option linter.unusedSimpArgs false in
theorem rn_neR {c d : Rn} {b : Bool} (h : o.op = .binOp .neq 67 x y 67) (hx : ρ x = c.v) (hy : ρ y = d.v) (hb : (!decide (c = d)) = b) (w : World) : (execOp ρ o).run Tryd.prog w = .ok (.value (.bool b)) w := by
  subst hb
  obtain ⟨h1, h2⟩ := run_eqAgg (w := w) guardR (eq_run 9997 c d w) x y true
  simp only [if_true, Bool.false_eq_true, if_false] at h1 h2
  unfold execOp
  simp only [h, hx, hy, Sem.run_bind, h1, h2, Result.andThen_ok, Sem.run_pure]
set_option linter.unusedSimpArgs false in
theorem rn_neC {c d : Ce} {b : Bool} (h : o.op = .binOp .neq 30 x y 30) (hx : ρ x = c.v) (hy : ρ y = d.v) (hb : (!decide (c = d)) = b) (w : World) : (execOp ρ o).run Tryd.prog w = .ok (.value (.bool b)) w := by
  subst hb
  obtain ⟨h1, h2⟩ := run_eqAgg (w := w) guardC (eq_cell c d w) x y true
  simp only [if_true, Bool.false_eq_true, if_false] at h1 h2
  unfold execOp
  simp only [h, hx, hy, Sem.run_bind, h1, h2, Result.andThen_ok, Sem.run_pure]
end

/-- What is stored into a block, whatever follows: a number or a row. -/
theorem storeV_does {w : World} {o : Oper} {a : Act} {Q : Exit → Act → World → Prop} {K : Act → World → Prop} {ty : TypeId} {x y : Operand} (ho : o.op = .store ty x y)
    {g i : Nat} {t : TypeId} {cur news : Array Value} {v : Value} (hx : a.eval x = .pointer (some ⟨g, i, none⟩)) (hy : a.eval y = v) (hv : v.cells = news) (hg : Blk w g t cur)
    (hi : (Tryd.prog.info? ty).map (·.size) = some news.size) (hfit : i + news.size ≤ cur.size) (h1 : ∀ u ∈ news.toList, u.oneCell' = true)
    (h : ∀ w', Blk w' g t (lay cur i news) → Fr (fun k => k = g) w w' → w'.heap.size = w.heap.size → K (a.put o.dst undef) w') : Oper.wp Tryd.prog o a w K Q := by
  have hs := run_storeCells_at Tryd.prog g i t news.toList 0 cur w hg (by simpa using hfit) h1
  have hrun : (storeVar ty ⟨g, i, none⟩ v).run Tryd.prog w = .ok () (w.setRow g (lay cur i news)) := by
    cases hq : Tryd.prog.info? ty with
    | none => simp [hq] at hi
    | some inf =>
      have hsz : news.size = inf.size := by simp [hq] at hi; omega
      simp only [Nat.add_zero, Array.length_toList] at hs
      simp [storeVar, sizeOf, typeInfo, hq, hv, hsz, hs, lay]
  unfold Oper.wp execOp
  simp only [ho, hx, hy, Instr.storeAt, Instr.sureAddr, Sem.run_bind, Sem.run_pure, Result.andThen_ok, hrun]
  exact h _ (setRow_heap w g cur _ t _ hg) (fr_setRow w g _) (by simp)
section
variable {ops : Array Oper} {Q : Exit → Act → World → Prop} {a : Act} {w w0 : World} {rest : List Oper} {o : Oper} {N k : Nat} {F : List (Nat × Value)} {H : List Bk}
theorem lSetV (i : Nat) {off : Nat} {b : Bk} (news : Array Value) {v : Value} {cs : Array Value} {ty : TypeId} {x y : Operand} (he : Env N F a) (hH : Hp w0 H w) (hd : o.dst = none) (hw : Region.wanted o (yielded ops a.tmps) = true)
    (ho : o.op = .store ty x y) (hb : H[i]? = some b) (hx : evO F x = some (.pointer (some ⟨b.p, off, none⟩))) (hy : evO F y = some v) (hv : v.cells = news)
    (hi : (Tryd.prog.info? ty).map (·.size) = some news.size) (hfit : Nat.ble (off + news.size) b.cs.size = true) (h1 : oneAll news = true) (hcs : lay b.cs off news = cs)
    (next : ∀ w' a', Hp w0 (H.set i ⟨b.p, b.t, cs⟩) w' → Env N F a' → wpList Tryd.prog ops Q rest a' w') : wpList Tryd.prog ops Q (o :: rest) a w :=
  wpList_step fun K hK => by
    rw [if_pos hw]
    exact storeV_does ho (he.op hx) (he.op hy) hv (hH.at hb) hi (Nat.le_of_ble_eq_true hfit) (oneAll_mem h1) (fun w' hB hf _ => hK _ _ (by rw [hd]; exact next _ _ (hH.set hb (hcs ▸ hB) hf) (he.put0 _)))
theorem hSetV {md : Region.Mode} {S : World → Prop} {fuel : Nat} {listed : Array Bool} {n : Nat} (i : Nat) {off : Nat} {b : Bk} (news : Array Value) {v : Value} {cs : Array Value} {ty : TypeId} {x y : Operand} (he : Env N F a) (hH : Hp w0 H w) (hr : Region.ready md ops listed = [n]) (hoi : ops[n]? = some o) (hd : o.dst = none) (hw : Region.wanted o (yielded ops a.tmps) = true)
    (ho : o.op = .store ty x y) (hb : H[i]? = some b) (hx : evO F x = some (.pointer (some ⟨b.p, off, none⟩))) (hy : evO F y = some v) (hv : v.cells = news)
    (hi : (Tryd.prog.info? ty).map (·.size) = some news.size) (hfit : Nat.ble (off + news.size) b.cs.size = true) (h1 : oneAll news = true) (hcs : lay b.cs off news = cs)
    (next : ∀ w' a', Hp w0 (H.set i ⟨b.p, b.t, cs⟩) w' → Fr (fun k => k = b.p) w w' → Env N F a' → S w' ∧ wpAnyH Tryd.prog md ops Q S fuel (listed.setIfInBounds n true) a' w') : wpAnyH Tryd.prog md ops Q S (fuel + 1) listed a w :=
  allH hr hoi hw (fun K hK => storeV_does ho (he.op hx) (he.op hy) hv (hH.at hb) hi (Nat.le_of_ble_eq_true hfit) (oneAll_mem h1) (fun w' hB hf _ => by
    have := next w' (a.put none undef) (hH.set hb (hcs ▸ hB) hf) hf (he.put0 _)
    rw [hd]
    exact hK _ _ this.1 this.2))
/-- Returned out of a block. -/
theorem ret_row {fn : Func} {p : Tmp} {ty t : TypeId} {d : TypeDesc} {g : Nat} {cs : Array Value} {R : Ending → World → Prop} (hf : fn.results = #[.cell p ty]) (he : Env N F a) (hp : lk F p = some (.pointer (some ⟨g, 0, none⟩))) (hg : Blk w g t cs) (hu : Tryd.prog.underlying ty = some d) (hd : d.isRow = true) (hi : (Tryd.prog.info? ty).map (·.size) = some cs.size)
    (hR : R (.returned (.agg cs)) w) : bodyPost Tryd.prog fn R .ret a w :=
  bodyPost_ret (results_cell_row (P := Tryd.prog) hf a.tmps w g t cs (0, 0) _ (he.ev _ _ hp) hg hu (by cases d <;> first | rfl | cases hd) hi) he.df hR
theorem ret_rowt {fn : Func} {p u : Tmp} {ty t : TypeId} {d : TypeDesc} {g : Nat} {cs : Array Value} {v : Value} {R : Ending → World → Prop} (hf : fn.results = #[.cell p ty, .tmp u]) (he : Env N F a) (hp : lk F p = some (.pointer (some ⟨g, 0, none⟩))) (hv : lk F u = some v) (hg : Blk w g t cs) (hu : Tryd.prog.underlying ty = some d) (hd : d.isRow = true) (hi : (Tryd.prog.info? ty).map (·.size) = some cs.size)
    (hR : R (.returned (.tuple #[.agg cs, v])) w) : bodyPost Tryd.prog fn R .ret a w := by
  refine bodyPost_ret ?_ he.df hR
  have e1 : a.tmps.getD p undef = .pointer (some ⟨g, 0, none⟩) := he.ev _ _ hp
  have e2 : a.tmps.getD u undef = v := he.ev _ _ hv
  rw [results_cell_tmp hf, e1, e2]
  simp only [asAddr, Sem.run_pure, Result.andThen_ok, run_loadVar_row (P := Tryd.prog) w g t ty cs (0, 0) _ hg hu (by cases d <;> first | rfl | cases hd) hi]
theorem ret_tt {fn : Func} {p u : Tmp} {x v : Value} {R : Ending → World → Prop} (hf : fn.results = #[.tmp p, .tmp u]) (he : Env N F a) (hp : lk F p = some x) (hv : lk F u = some v)
    (hR : R (.returned (.tuple #[x, v])) w) : bodyPost Tryd.prog fn R .ret a w := by
  have e1 : a.tmps.getD p undef = x := he.ev _ _ hp
  have e2 : a.tmps.getD u undef = v := he.ev _ _ hv
  exact bodyPost_ret ((results_tmp2 hf a.tmps Tryd.prog w).trans (by rw [e1, e2])) he.df hR
end
end Go.Proofs.YtaiijndldngnkaaDoor
namespace Go.Proofs.YtaiijndldngnkaaDoor
open Go.RowKit

theorem Hp.drop1 {w0 w : World} {H : List Bk} (h : Hp w0 H w) (i : Nat) {G : List Bk} (e : H.eraseIdx i = G) : Hp w0 G w := by
  subst e
  have key : ∀ (j : Nat) (b : Bk), (H.eraseIdx i)[j]? = some b → ∃ j', H[j']? = some b ∧ j' ≠ i ∧ (j' = if j < i then j else j + 1) := by
    intro j b hj
    rw [List.getElem?_eraseIdx] at hj
    split at hj
    · rename_i hlt; exact ⟨j, hj, by omega, by rw [if_pos hlt]⟩
    · rename_i hlt; exact ⟨j + 1, hj, by omega, by rw [if_neg hlt]⟩
  refine ⟨h.new, ?_, fun b hb => h.bl b (List.mem_of_mem_eraseIdx hb)⟩
  intro j k b c hj hk hjk
  obtain ⟨j', h1, -, e1⟩ := key j b hj
  obtain ⟨k', h2, -, e2⟩ := key k c hk
  exact h.nd j' k' b c h1 h2 (fun e => hjk (by split at e1 <;> split at e2 <;> omega))
section
variable {P : Program} {ops : Array Oper} {Q : Exit → Act → World → Prop} {S : World → Prop} {md : Region.Mode} {fuel : Nat} {listed : Array Bool} {a : Act} {w w0 : World} {N k : Nat} {F : List (Nat × Value)} {H : List Bk}
/-- An allocation that alone may come up. -/
theorem hNew {i : Nat} {o : Oper} (mk : Nat → Value) {t : TypeId} {cs : Array Value} (he : Env N F a) (hH : Hp w0 H w) (hr : Region.ready md ops listed = [i]) (hoi : ops[i]? = some o) (hd : o.dst = some k) (hk : Nat.blt k N = true)
    (hw : Region.wanted o (yielded ops a.tmps) = true) (h : (execOp a.eval o).run P w = .ok (.value (mk w.heap.size)) (w.alloc (.cells cs t)))
    (next : ∀ p w' a', New w w' → Hp w0 (⟨p, t, cs⟩ :: H) w' → Env N ((k, mk p) :: F) a' → S w' ∧ wpAnyH P md ops Q S fuel (listed.setIfInBounds i true) a' w') : wpAnyH P md ops Q S (fuel + 1) listed a w :=
  allH hr hoi hw (fun K hK => wp_valw h (by
    have := next w.heap.size _ _ ((Fr.refl _ _).alloc _) (hH.alloc t cs) (he.put hk (mk w.heap.size))
    rw [hd]
    exact hK _ _ this.1 this.2))
theorem does_call {f : FuncId} {fn : Func} {c : Code} {l : List Operand} {ats : Array TypeId} {vs : Array Value} {R : Ending → World → Prop} {post : Value → World → Prop} {o : Oper} (hf : P.funcs[f]? = some fn) (hname : (fn.name == "runtime.NumGoroutine") = false) (hb : fn.body = some c)
    (ho : o.op = .call { callee := .value (.func f), args := l.toArray, argTypes := ats }) (hv : l.toArray.map a.eval = vs) (hc : Calls P f vs w R) (h : ∀ e w', R e w' → ∃ v, e = .returned v ∧ post v w') : Does P Q o a w post :=
  fun _ hK => wp_callF hf hname hb ho hv (hc.mono fun e w' hr => let ⟨v, h1, h2⟩ := h e w' hr; ⟨v, h1, hK _ _ h2⟩)
/-- A call that returns this, beside an allocation: either comes first. -/
theorem hCA {i j x y : Nat} {oi oj : Oper} (mk : Nat → Value) {t : TypeId} {cs : Array Value} {f : FuncId} {fn : Func} {c : Code} {l : List Operand} {ats : Array TypeId} {vl : List Value} {v : Value} (he : Env N F a) (hH : Hp w0 H w) (kx : Nat.blt x N = true) (ky : Nat.blt y N = true)
    (r0 : Region.ready md ops listed = [i, j]) (rj : Region.ready md ops (listed.setIfInBounds j true) = [i])
    (hi : ops[i]? = some oi) (hj : ops[j]? = some oj) (di : oi.dst = some x) (dj : oj.dst = some y) (gi : oi.guard = none) (gj : oj.guard = none)
    (hf : P.funcs[f]? = some fn) (hname : (fn.name == "runtime.NumGoroutine") = false) (hb : fn.body = some c) (ho : oi.op = .call { callee := .value (.func f), args := l.toArray, argTypes := ats }) (hv : ∀ u, evL ((y, u) :: F) l = some vl) (hv0 : evL F l = some vl)
    (hc : ∀ w, New w0 w → Calls P f vl.toArray w fun e w' => e = .returned v ∧ New w w') (hal : ∀ (a : Act) (w : World), (execOp a.eval oj).run P w = .ok (.value (mk w.heap.size)) (w.alloc (.cells cs t)))
    (hS : ∀ w', Hp w0 H w' → S w')
    (first : ∀ w' a', Hp w0 H w' → Env N ((x, v) :: F) a' → wpAnyH P md ops Q S (fuel + 1) (listed.setIfInBounds i true) a' w')
    (second : ∀ p w' a', Hp w0 (⟨p, t, cs⟩ :: H) w' → Env N ((x, v) :: (y, mk p) :: F) a' → wpAnyH P md ops Q S fuel ((listed.setIfInBounds j true).setIfInBounds i true) a' w') : wpAnyH P md ops Q S (fuel + 2) listed a w := by
  refine stepH (fuel := fuel + 1) r0 (by simp) (fun n hn => ?_)
  rcases List.mem_cons.1 hn with rfl | hn
  · refine ⟨oi, hi, wanted_plain gi _, (fun u w' => u = v ∧ New w w'), does_call hf hname hb ho (he.args hv0) (hc w hH.new) (fun e w' h => ⟨v, h.1, rfl, h.2⟩), ?_⟩
    rintro v' w1 ⟨rfl, n1⟩
    have h1 := hH.call n1
    rw [di]
    exact ⟨hS _ h1, first _ _ h1 (he.put kx _)⟩
  · obtain rfl := List.mem_singleton.1 hn
    refine ⟨oj, hj, wanted_plain gj _, (fun u w2 => u = mk w.heap.size ∧ w2 = w.alloc (.cells cs t)), Does.val (hal _ _) ⟨rfl, rfl⟩, ?_⟩
    rintro u w1 ⟨rfl, rfl⟩
    have h1 := hH.alloc t cs
    have n1 : New w (w.alloc (.cells cs t)) := (Fr.refl _ _).alloc _
    refine ⟨hS _ (hH.call n1), stepH (fuel := fuel) rj (by simp) (fun m hm => ?_)⟩
    obtain rfl := List.mem_singleton.1 hm
    rw [dj]
    refine ⟨oi, hi, wanted_plain gi _, (fun u w' => u = v ∧ New (w.alloc (.cells cs t)) w'), does_call hf hname hb ho ((he.put ky (mk w.heap.size)).args (hv _)) (hc _ h1.new) (fun e w' h => ⟨v, h.1, rfl, h.2⟩), ?_⟩
    rintro v' w2 ⟨rfl, n2⟩
    rw [di]
    exact ⟨hS _ ((hH.call n1).call n2), second _ _ _ (h1.call n2) ((he.put ky _).put kx _)⟩

/-! ### Whatever the order -/
def depsOf (md : Region.Mode) (o : Oper) : List Nat := (o.after.toList.filter (Region.binds md)).map (·.on)
def dstOf (ops : Array Oper) (j : Nat) : Nat := ((ops[j]?).bind (·.dst)).getD 0
/-- What is known of the slots that the region doesn't write, and of the world. -/
structure Base (N : Nat) (F : List (Nat × Value)) (S : World → Prop) (a : Act) (w : World) : Prop where
  env : Env N F a
  held : S w
/-- One operation of it: behind those that it waits for it does what is known of it. -/
def StepOk (P : Program) (md : Region.Mode) (ops : Array Oper) (Q : Exit → Act → World → Prop) (N : Nat) (F : List (Nat × Value)) (S : World → Prop) (I : Nat → Value → World → Prop) (k : Nat) (o : Oper) : Prop :=
  ∀ a w, Base N F S a w → (∀ j, (depsOf md o).contains j = true → I j (a.eval (.tmp (dstOf ops j))) w) →
    (Region.wanted o (yielded ops a.tmps) = false ∧ I k undef w) ∨ (Region.wanted o (yielded ops a.tmps) = true ∧ Does P Q o a w (fun v w' => New w w' ∧ I k v w'))
def StepsAll (P : Program) (md : Region.Mode) (ops : Array Oper) (Q : Exit → Act → World → Prop) (N : Nat) (F : List (Nat × Value)) (S : World → Prop) (I : Nat → Value → World → Prop) : Nat → List Oper → Prop
  | _, [] => True
  | k, o :: l => StepOk P md ops Q N F S I k o ∧ StepsAll P md ops Q N F S I (k + 1) l
theorem StepsAll.at {I : Nat → Value → World → Prop} : ∀ {l : List Oper} {i : Nat}, StepsAll P md ops Q N F S I i l → ∀ k o, l[k]? = some o → StepOk P md ops Q N F S I (i + k) o := by
  intro l
  induction l with
  | nil => intro i _ k o h; simp at h
  | cons x l ih =>
    intro i h k o hk
    cases k with
    | zero => simp only [List.getElem?_cons_zero, Option.some.injEq] at hk; subst hk; exact h.1
    | succ k =>
      have := ih h.2 k o (by simpa using hk)
      rwa [show i + 1 + k = i + (k + 1) by omega] at this
/-- The slots written are different ones, not among those that are known, and each operation waits for earlier ones alone. -/
def okOps (N : Nat) (F : List (Nat × Value)) : Nat → List Oper → List Nat → Bool
  | _, [], _ => true
  | k, o :: l, seen => (match o.dst with
    | some s => Nat.blt s N && !(seen.contains s) && (lk F s).isNone && o.after.toList.all (fun e => Nat.blt e.on k) && okOps N F (k + 1) l (s :: seen)
    | none => false)
theorem okOps_at : ∀ {l : List Oper} {i : Nat} {seen : List Nat}, okOps N F i l seen = true → ∀ k o, l[k]? = some o → ∃ s, o.dst = some s ∧ s < N ∧ s ∉ seen ∧ lk F s = none ∧ (∀ e ∈ o.after, e.on < i + k) ∧ ∀ j oj, j < k → l[j]? = some oj → oj.dst ≠ some s := by
  intro l
  induction l with
  | nil => intro i seen _ k o h; simp at h
  | cons x l ih =>
    intro i seen h k o hk
    simp only [okOps] at h
    cases hx : x.dst with
    | none => rw [hx] at h; cases h
    | some s =>
      rw [hx] at h
      simp only [Bool.and_eq_true, Bool.not_eq_true', Option.isNone_iff_eq_none, List.all_eq_true, Nat.blt_eq] at h
      obtain ⟨⟨⟨⟨h1, h2⟩, h3⟩, h4⟩, h5⟩ := h
      have h2' : s ∉ seen := fun hm => by
        have : seen.contains s = true := by simpa using hm
        rw [this] at h2; cases h2
      cases k with
      | zero =>
        simp only [List.getElem?_cons_zero, Option.some.injEq] at hk
        subst hk
        exact ⟨s, hx, h1, h2', h3, fun e he => by have := h4 e (by simpa using he); omega, fun j oj hj => by omega⟩
      | succ k =>
        obtain ⟨s', g1, g2, g3, g4, g5, g6⟩ := ih h5 k o (by simpa using hk)
        refine ⟨s', g1, g2, fun hm => g3 (List.mem_cons_of_mem _ hm), g4, fun e he => by have := g5 e he; omega, fun j oj hj hoj => ?_⟩
        cases j with
        | zero =>
          simp only [List.getElem?_cons_zero, Option.some.injEq] at hoj
          subst hoj
          rw [hx]
          simp only [ne_eq, Option.some.injEq]
          exact fun e => g3 (by rw [e]; exact List.mem_cons_self)
        | succ j => exact g6 j oj (by omega) (by simpa using hoj)
structure Got (N : Nat) (ops : Array Oper) (F : List (Nat × Value)) (S : World → Prop) (I : Nat → Value → World → Prop) (listed : Array Bool) (a : Act) (w : World) : Prop where
  size : listed.size = ops.size
  base : Base N F S a w
  got : ∀ k, listed.getD k false = true → I k (a.eval (.tmp (dstOf ops k))) w
theorem dst_at {k s : Nat} {o : Oper} (h : ops[k]? = some o) (hd : o.dst = some s) : dstOf ops k = s := by simp [dstOf, h, hd]
theorem Env.off {s : Nat} (he : Env N F a) (hf : lk F s = none) (v : Value) : Env N F (a.put (some s) v) := by
  refine ⟨by rw [sz_put]; exact he.sz, he.df, fun j u h => ?_⟩
  have hne : j ≠ s := fun e => by rw [e, hf] at h; cases h
  rw [ev_ne hne]
  exact he.ev j u h
theorem any_order {I : Nat → Value → World → Prop} (hok : okOps N F 0 ops.toList [] = true) (hI : ∀ k v w w', I k v w → New w w' → I k v w') (hS : ∀ w w', S w → New w w' → S w')
    (steps : StepsAll P md ops Q N F S I 0 ops.toList) (fin : ∀ a w, Base N F S a w → (∀ k, k < ops.size → I k (a.eval (.tmp (dstOf ops k))) w) → Q .normal a w) :
    ∀ (fuel : Nat) (listed : Array Bool) (a : Act) (w : World), Got N ops F S I listed a w → (listed.toList.filter (!·)).length ≤ fuel → wpAny P md ops Q fuel listed a w := by
  have hat : ∀ k o, ops[k]? = some o → ops.toList[k]? = some o := fun k o h => by rw [Array.getElem?_toList]; exact h
  have inj : ∀ (k j : Nat) (o oj : Oper) (s : Nat), ops[k]? = some o → ops[j]? = some oj → o.dst = some s → oj.dst = some s → k = j := by
    intro k j o oj s hk hj hd hd'
    rcases Nat.lt_trichotomy k j with h | h | h
    · obtain ⟨s', g1, _, _, _, _, g6⟩ := okOps_at hok j oj (hat _ _ hj)
      rw [hd'] at g1
      obtain rfl : s = s' := by simpa using g1
      exact absurd hd (g6 k o h (hat _ _ hk))
    · exact h
    · obtain ⟨s', g1, _, _, _, _, g6⟩ := okOps_at hok k o (hat _ _ hk)
      rw [hd] at g1
      obtain rfl : s = s' := by simpa using g1
      exact absurd hd' (g6 j oj h (hat _ _ hj))
  have nxt : ∀ (listed : Array Bool) (a : Act) (w w' : World) (k : Nat) (o : Oper) (v : Value), ops[k]? = some o → Got N ops F S I listed a w → New w w' → I k v w' → Got N ops F S I (listed.setIfInBounds k true) (a.put o.dst v) w' := by
    intro listed a w w' k o v hk h hn hv
    obtain ⟨s, g1, g2, _, g4, _, _⟩ := okOps_at hok k o (hat _ _ hk)
    rw [g1]
    refine ⟨by simpa using h.size, ⟨h.base.env.off g4 v, hS _ _ h.base.held hn⟩, fun j hj => ?_⟩
    by_cases hjk : k = j
    · subst hjk
      rw [dst_at hk g1, ev_same (by rw [h.base.env.sz]; exact g2)]
      exact hv
    · rw [getD_set_ne false hjk] at hj
      have hg := hI _ _ _ _ (h.got j hj) hn
      have hjl : j < ops.size := by
        rw [← h.size]
        rcases Nat.lt_or_ge j listed.size with h' | h'
        · exact h'
        · simp [Array.getElem?_eq_none h'] at hj
      have hoj : ops[j]? = some ops[j] := Array.getElem?_eq_getElem hjl
      obtain ⟨s', g1', _⟩ := okOps_at hok j _ (hat _ _ hoj)
      have hne : s' ≠ s := fun e => hjk (inj k j o _ s hk hoj g1 (by rw [g1', e]))
      rw [dst_at hoj g1', ev_ne hne]
      rwa [dst_at hoj g1'] at hg
  have done : ∀ (listed : Array Bool) (a : Act) (w : World), Got N ops F S I listed a w → Region.ready md ops listed = [] → ∀ k, k < ops.size → listed.getD k false = true := by
    intro listed a w h hr k
    induction k using Nat.strongRecOn with
    | _ k ih =>
      intro hk
      cases e : listed.getD k false with
      | true => rfl
      | false =>
        have hoj : ops[k]? = some ops[k] := Array.getElem?_eq_getElem hk
        obtain ⟨s, _, _, _, _, g5, _⟩ := okOps_at hok k _ (hat _ _ hoj)
        have : k ∈ Region.ready md ops listed := by
          rw [mem_ready]
          refine ⟨?_, _, hoj, fun x hx _ => ih x.on (by have := g5 x hx; omega) (by have := g5 x hx; omega)⟩
          have hl : k < listed.size := by rw [h.size]; exact hk
          simp only [Array.getD, hl, dif_pos] at e ⊢
          exact e
        rw [hr] at this
        cases this
  have count : ∀ (listed : Array Bool) (k : Nat), listed.getD k true = false → ((listed.setIfInBounds k true).toList.filter (!·)).length + 1 ≤ (listed.toList.filter (!·)).length := by
    intro listed k hk
    have hl : k < listed.toList.length := by
      rcases Nat.lt_or_ge k listed.size with h' | h'
      · simpa using h'
      · simp [Array.getElem?_eq_none h'] at hk
    have hv : listed.toList[k] = false := by
      simp only [Array.length_toList] at hl
      simp only [Array.getD, hl, dif_pos] at hk
      simpa using hk
    rw [Array.toList_setIfInBounds]
    generalize listed.toList = L at hl hv
    have e1 : L.set k true = L.take k ++ true :: L.drop (k + 1) := by rw [List.set_eq_take_append_cons_drop, if_pos hl]
    have e2 : L = L.take k ++ false :: L.drop (k + 1) := by
      conv => lhs; rw [← List.take_append_drop k L, List.drop_eq_getElem_cons hl, hv]
    rw [e1]
    conv => rhs; rw [e2]
    simp only [List.filter_append, List.length_append]
    simp
    omega
  intro fuel
  induction fuel with
  | zero =>
    intro listed a w h hf
    have hr : Region.ready md ops listed = [] := by
      rw [List.eq_nil_iff_forall_not_mem]
      intro k hk
      have := count listed k (mem_ready.1 hk).1
      omega
    exact ⟨hr, fin a w h.base (fun k hk => h.got k (done listed a w h hr k hk))⟩
  | succ fuel ih =>
    intro listed a w h hf
    refine ⟨fun hr => fin a w h.base (fun k hk => h.got k (done listed a w h hr k hk)), fun k hk => ?_⟩
    have hc := count listed k (mem_ready.1 hk).1
    obtain ⟨hk0, o, hko, hall⟩ := mem_ready.1 hk
    have hs := steps.at k o (hat _ _ hko)
    rw [Nat.zero_add] at hs
    have hd : ∀ j, (depsOf md o).contains j = true → I j (a.eval (.tmp (dstOf ops j))) w := by
      intro j hj
      have hj' : j ∈ depsOf md o := by simpa using hj
      obtain ⟨e, he, rfl⟩ := List.mem_map.1 hj'
      obtain ⟨he1, he2⟩ := List.mem_filter.1 he
      exact h.got _ (hall e (by simpa using he1) he2)
    unfold wpOp
    rw [hko]
    rcases hs a w h.base hd with ⟨hw, hi⟩ | ⟨hw, hdo⟩
    · simp only [hw, Bool.false_eq_true, if_false]
      exact ih _ _ _ (nxt listed a w w k o undef hko h (Fr.refl _ _) hi) (by omega)
    · simp only [hw, if_true]
      refine .inl (hdo _ (fun v w' hv => ih _ _ _ (nxt listed a w w' k o v hko h hv.1 hv.2) (by omega)))
/-- The beginning: a region that draws its order. -/
theorem region_any {id : Nat} {I : Nat → Value → World → Prop} (hm : P.follows .mixedOrders = true) (he : Env N F a) (hS0 : S w.drew) (hok : okOps N F 0 ops.toList [] = true) (hI : ∀ k v w w', I k v w → New w w' → I k v w') (hS : ∀ w w', S w → New w w' → S w')
    (steps : StepsAll P .any ops Q N F S I 0 ops.toList) (fin : ∀ a w, Base N F S a w → (∀ k, k < ops.size → I k (a.eval (.tmp (dstOf ops k))) w) → Q .normal a w) : (Code.region id ops true).wp P Q a w :=
  wp_region_any hm (any_order hok hI hS steps fin ops.size _ a _ ⟨by simp, ⟨he, hS0⟩, fun k hk => by
    by_cases h : k < ops.size <;> simp [h] at hk⟩ (by
      refine Nat.le_trans (List.length_filter_le _ _) (by simp)))
end
end Go.Proofs.YtaiijndldngnkaaDoor
