/-
  Walks by hand over a frame and a memory that are variables: what a frame holds (Env), the blocks of the call's own (Hp), and a law for each kind of step.
-/
import Derived.Test.YtjcpdldaimebbaaDoorGDia
namespace Go.Proofs.YtjcpdldaimebbaaDoor
open Go.RowKit

/-- What is known of the slots: the first entry of a number counts. -/
def lk : List (Nat × Value) → Nat → Option Value
  | [], _ => none
  | (j, v) :: F, k => cond (Nat.beq j k) (some v) (lk F k)
def evO (F : List (Nat × Value)) : Operand → Option Value
  | .tmp k => lk F k
  | .const v => some v
  | _ => none
def evL (F : List (Nat × Value)) : List Operand → Option (List Value)
  | [] => some []
  | x :: l => match evO F x, evL F l with
    | some v, some vl => some (v :: vl)
    | _, _ => none
def allIn (F : List (Nat × Value)) : List (Nat × Value) → Prop
  | [] => True
  | p :: G => lk F p.1 = some p.2 ∧ allIn F G
structure Env (N : Nat) (F : List (Nat × Value)) (a : Act) : Prop where
  sz : a.tmps.size = N
  df : a.defers = []
  ev : ∀ k v, lk F k = some v → a.eval (.tmp k) = v

section
variable {N : Nat} {F : List (Nat × Value)} {a : Act}
theorem Env.op (he : Env N F a) {x : Operand} {v : Value} (h : evO F x = some v) : a.eval x = v := by
  cases x with
  | tmp k => exact he.ev k v h
  | const u => simp only [evO, Option.some.injEq] at h; exact h
  | _ => simp [evO] at h
theorem Env.args (he : Env N F a) {l : List Operand} {vl : List Value} (h : evL F l = some vl) : l.toArray.map a.eval = vl.toArray := by
  induction l generalizing vl with
  | nil => simp only [evL, Option.some.injEq] at h; subst h; simp
  | cons x l ih =>
    simp only [evL] at h
    split at h
    · rename_i v vs h1 h2
      simp only [Option.some.injEq] at h
      subst h
      have e := ih h2
      simp only [List.map_toArray, List.map_cons, he.op h1] at e ⊢
      rw [Array.mk.injEq] at e
      rw [e]
    · cases h
theorem Env.put (he : Env N F a) {k : Nat} (hk : Nat.blt k N = true) (v : Value) : Env N ((k, v) :: F) (a.put (some k) v) := by
  have hk : k < N := by simpa [Nat.blt_eq] using hk
  refine ⟨by rw [sz_put]; exact he.sz, he.df, fun j u h => ?_⟩
  unfold lk at h
  cases hb : Nat.beq k j with
  | true =>
    rw [hb] at h
    simp only [cond_true, Option.some.injEq] at h
    obtain rfl := Nat.eq_of_beq_eq_true hb
    rw [ev_same (by rw [he.sz]; exact hk), h]
  | false =>
    rw [hb] at h
    simp only [cond_false] at h
    have hne : j ≠ k := fun e => by subst e; rw [Nat.beq_refl] at hb; cases hb
    rw [ev_ne hne]
    exact he.ev j u h
theorem Env.put0 (he : Env N F a) (v : Value) : Env N F (a.put none v) := ⟨he.sz, he.df, he.ev⟩
theorem Env.mem (he : Env N F a) {G : List (Nat × Value)} (h : allIn F G) : Env N G a := by
  refine ⟨he.sz, he.df, ?_⟩
  induction G with
  | nil => intro k v h; simp [lk] at h
  | cons p G ih =>
    intro k v hk
    obtain ⟨j, u⟩ := p
    obtain ⟨h1, h2⟩ := h
    unfold lk at hk
    cases hb : Nat.beq j k with
    | true =>
      rw [hb] at hk
      simp only [cond_true, Option.some.injEq] at hk
      obtain rfl := Nat.eq_of_beq_eq_true hb
      subst hk
      exact he.ev _ _ h1
    | false =>
      rw [hb] at hk
      exact ih h2 k v hk
theorem Env.same (he : Env N F a) {G : List (Nat × Value)} (h : F = G) : Env N G a := h ▸ he
theorem Env.want (he : Env N F a) {ops : Array Oper} {o oj : Oper} {j k : Nat} {b : Bool} (h : o.guard = some (j, b)) (hj : ops[j]? = some oj) (hd : oj.dst = some k) (hk : Nat.blt k N = true) (hv : lk F k = some (.bool b)) : Region.wanted o (yielded ops a.tmps) = true :=
  wanted_guard h hj hd (by rw [he.sz]; simpa [Nat.blt_eq] using hk) (he.ev _ _ hv)
theorem Env.wantNot (he : Env N F a) {ops : Array Oper} {o oj : Oper} {j k : Nat} {b c : Bool} (h : o.guard = some (j, b)) (hj : ops[j]? = some oj) (hd : oj.dst = some k) (hk : Nat.blt k N = true) (hv : lk F k = some (.bool c)) (hbc : (c == b) = false) : Region.wanted o (yielded ops a.tmps) = false :=
  unwanted_guard h hj hd (by rw [he.sz]; simpa [Nat.blt_eq] using hk) (he.ev _ _ hv) (by simpa using hbc)
end

theorem Env.wantU {N : Nat} {F : List (Nat × Value)} {a : Act} (he : Env N F a) {ops : Array Oper} {o oj : Oper} {j k : Nat} {b : Bool} (h : o.guard = some (j, b)) (hj : ops[j]? = some oj) (hd : oj.dst = some k) (hk : Nat.blt k N = true) (hv : lk F k = some undef) : Region.wanted o (yielded ops a.tmps) = false := by
  have hk' : k < a.tmps.size := by rw [he.sz]; simpa [Nat.blt_eq] using hk
  have h1 : a.tmps[k]? = some undef := by
    have hv' := he.ev _ _ hv
    rw [Array.getElem?_eq_getElem hk']
    simp only [Act.eval, Array.getD, hk', dif_pos] at hv'
    exact congrArg some hv'
  simp [Region.wanted, h, yielded, hj, hd, h1, undef]

/-- A block of the call's own: its number, its type, its cells. -/
structure Bk where
  p : Nat
  t : TypeId
  cs : Array Value
/-- Blocks that came since w0, all of them different ones, as they are now; of w0's blocks none has turned. -/
structure Hp (w0 : World) (H : List Bk) (w : World) : Prop where
  new : New w0 w
  nd : ∀ (i j : Nat) (b c : Bk), H[i]? = some b → H[j]? = some c → i ≠ j → b.p ≠ c.p
  bl : ∀ b ∈ H, w0.heap.size ≤ b.p ∧ Blk w b.p b.t b.cs

section
variable {w0 w w' : World} {H : List Bk}
theorem Hp.start (w : World) : Hp w [] w := ⟨Fr.refl _ _, by simp, by simp⟩
theorem Hp.at (h : Hp w0 H w) {i : Nat} {b : Bk} (hb : H[i]? = some b) : Blk w b.p b.t b.cs := (h.bl b (List.mem_of_getElem? hb)).2
theorem Hp.lo (h : Hp w0 H w) {i : Nat} {b : Bk} (hb : H[i]? = some b) : w0.heap.size ≤ b.p := (h.bl b (List.mem_of_getElem? hb)).1
theorem Hp.call (h : Hp w0 H w) (hn : New w w') : Hp w0 H w' :=
  ⟨Fr.trans h.new hn (fun _ _ h => h), h.nd, fun b hb => ⟨(h.bl b hb).1, (h.bl b hb).2.fr hn (fun h => h)⟩⟩
theorem Hp.cons (h : Hp w0 H w) {p : Nat} {t : TypeId} {cs : Array Value} (hn : New w w') (hp : w.heap.size ≤ p) (hb : Blk w' p t cs) : Hp w0 (⟨p, t, cs⟩ :: H) w' := by
  have fresh : ∀ c ∈ H, c.p ≠ p := fun c hc e => by
    have := (h.bl c hc).2.lt
    omega
  refine ⟨Fr.trans h.new hn (fun _ _ h => h), ?_, ?_⟩
  · intro i j b c hi hj hij
    cases i with
    | zero =>
      cases j with
      | zero => exact absurd rfl hij
      | succ j =>
        simp only [List.getElem?_cons_zero, Option.some.injEq] at hi
        subst hi
        exact (fresh c (List.mem_of_getElem? (by simpa using hj))).symm
    | succ i =>
      cases j with
      | zero =>
        simp only [List.getElem?_cons_zero, Option.some.injEq] at hj
        subst hj
        exact fresh b (List.mem_of_getElem? (by simpa using hi))
      | succ j => exact h.nd i j b c (by simpa using hi) (by simpa using hj) (fun e => hij (by rw [e]))
  · intro b hb'
    rcases List.mem_cons.1 hb' with rfl | hb'
    · exact ⟨Nat.le_trans h.new.size hp, hb⟩
    · exact ⟨(h.bl b hb').1, (h.bl b hb').2.fr hn (fun h => h)⟩
theorem Hp.alloc (h : Hp w0 H w) (t : TypeId) (cs : Array Value) : Hp w0 (⟨w.heap.size, t, cs⟩ :: H) (w.alloc (.cells cs t)) :=
  h.cons ((Fr.refl _ _).alloc _) (Nat.le_refl _) (Blk.new w t cs)
theorem Hp.drew (h : Hp w0 H w) : Hp w0 H w.drew := ⟨h.new.drew, h.nd, fun b hb => ⟨(h.bl b hb).1, (h.bl b hb).2⟩⟩
theorem Hp.set (h : Hp w0 H w) {i : Nat} {b : Bk} {cs : Array Value} (hb : H[i]? = some b) (hB : Blk w' b.p b.t cs) (hf : Fr (fun k => k = b.p) w w') : Hp w0 (H.set i ⟨b.p, b.t, cs⟩) w' := by
  have hlo := h.lo hb
  have key : ∀ (j : Nat) (c : Bk), (H.set i ⟨b.p, b.t, cs⟩)[j]? = some c → (i = j ∧ c = ⟨b.p, b.t, cs⟩) ∨ (i ≠ j ∧ H[j]? = some c) := by
    intro j c hj
    rw [List.getElem?_set] at hj
    by_cases e : i = j
    · left
      rw [if_pos e] at hj
      split at hj
      · simp only [Option.some.injEq] at hj
        exact ⟨e, hj.symm⟩
      · cases hj
    · right
      rw [if_neg e] at hj
      exact ⟨e, hj⟩
  refine ⟨⟨hf.os.trans h.new.os, hf.tape.trans h.new.tape, hf.output.trans h.new.output, Nat.le_trans h.new.size hf.size, fun k hk _ => (hf.block k (Nat.lt_of_lt_of_le hk h.new.size) (by omega)).trans (h.new.block k hk (fun h => h))⟩, ?_, fun c hc => ?_⟩
  · intro j k c d hj hk hjk
    rcases key j c hj with ⟨e1, rfl⟩ | ⟨e1, h1⟩ <;> rcases key k d hk with ⟨e2, rfl⟩ | ⟨e2, h2⟩
    · exact absurd (e1.symm.trans e2) hjk
    · exact h.nd i k b d hb h2 e2
    · exact h.nd j i c b h1 hb (Ne.symm e1)
    · exact h.nd j k c d h1 h2 hjk
  · obtain ⟨j, hj, e⟩ := List.mem_iff_getElem.1 hc
    rcases key j c (by rw [List.getElem?_eq_getElem hj, e]) with ⟨_, rfl⟩ | ⟨e1, h1⟩
    · exact ⟨hlo, hB⟩
    · exact ⟨h.lo h1, (h.at h1).fr hf (fun ep => h.nd j i c b h1 hb (Ne.symm e1) ep)⟩
theorem Hp.same (h : Hp w0 H w) {H' : List Bk} (e : H = H') : Hp w0 H' w := e ▸ h
/-- Fewer blocks: those at the given places. -/
theorem Hp.tail (h : Hp w0 H w) {b : Bk} {G : List Bk} (e : H = b :: G) : Hp w0 G w := by
  subst e
  exact ⟨h.new, fun i j c d hi hj hij => h.nd (i + 1) (j + 1) c d (by simpa using hi) (by simpa using hj) (by omega), fun c hc => h.bl c (List.mem_cons_of_mem _ hc)⟩
end

/-! ### Steps of the text -/
section
variable {P : Program} {Q : Exit → Act → World → Prop} {a : Act} {w : World}
/-- A piece of code from which only this is kept. -/
theorem reg_cut {c : Code} {K : Act → World → Prop} (I : Act → World → Prop) (h1 : c.wp P (Exit.then I (fun _ _ _ => False)) a w) (h2 : ∀ a w, I a w → K a w) : c.wp P (Exit.then K Q) a w :=
  wp_mono h1 (fun e a w h => by
    cases e with
    | normal => exact h2 a w h
    | _ => exact h.elim)
theorem then_ok {K : Act → World → Prop} (h : K a w) : Exit.then K Q .normal a w := h
theorem block_ok {id : Nat} (h : Q .normal a w) : Exit.inBlock id Q .normal a w := h
theorem ret_env {fn : Func} {t : Tmp} {N : Nat} {F : List (Nat × Value)} {v : Value} {R : Ending → World → Prop} (hf : fn.results = #[.tmp t]) (he : Env N F a) (hv : lk F t = some v) (hR : R (.returned v) w) : bodyPost P fn R .ret a w :=
  bodyPost_ret ((results_tmp hf a.tmps P w).trans (by rw [show a.tmps.getD t undef = v from he.ev _ _ hv])) he.df hR
theorem calls_env {f : FuncId} {fn : Func} {c : Code} {vl : List Value} {R : Ending → World → Prop} (N : Nat) (F : List (Nat × Value)) (hf : P.funcs[f]? = some fn) (hb : fn.body = some c)
    (hN : fn.ntmps = N) (hF : ∀ a : Act, a.tmps = vl.toArray ++ Array.replicate (N - vl.length) undef → ∀ k v, lk F k = some v → a.eval (.tmp k) = v) (hl : vl.length ≤ N)
    (h : ∀ a, Env N F a → c.wp P (bodyPost P fn R) a w) : Calls P f vl.toArray w R := by
  refine calls_of_wp hf hb (h _ ⟨?_, rfl, hF _ ?_⟩)
  · simp only [hN, Array.size_append, Array.size_replicate, List.size_toArray]
    omega
  · simp only [hN, List.size_toArray]
end

def enumF : Nat → List Value → List (Nat × Value)
  | _, [] => []
  | i, v :: l => (i, v) :: enumF (i + 1) l
theorem lk_enumF (l : List Value) : ∀ (i k : Nat) (v : Value), lk (enumF i l) k = some v → i ≤ k ∧ l[k - i]? = some v := by
  induction l with
  | nil => intro i k v h; simp [enumF, lk] at h
  | cons u l ih =>
    intro i k v h
    unfold enumF lk at h
    cases hb : Nat.beq i k with
    | true =>
      rw [hb] at h
      simp only [cond_true, Option.some.injEq] at h
      obtain rfl := Nat.eq_of_beq_eq_true hb
      subst h
      exact ⟨Nat.le_refl _, by simp⟩
    | false =>
      rw [hb] at h
      obtain ⟨h1, h2⟩ := ih (i + 1) k v h
      refine ⟨by omega, ?_⟩
      obtain ⟨j, hj⟩ : ∃ j, k - i = j + 1 := ⟨k - (i + 1), by omega⟩
      rw [hj, List.getElem?_cons_succ, ← h2]
      congr 1
      omega
/-- A call begins: the frame holds the arguments. -/
theorem calls_args {P : Program} {w : World} {f : FuncId} {fn : Func} {c : Code} {vl : List Value} {R : Ending → World → Prop} (N : Nat) (hf : P.funcs[f]? = some fn) (hb : fn.body = some c)
    (hN : fn.ntmps = N) (hl : Nat.ble vl.length N = true) (h : ∀ a, Env N (enumF 0 vl) a → c.wp P (bodyPost P fn R) a w) : Calls P f vl.toArray w R := by
  have hl := Nat.le_of_ble_eq_true hl
  refine calls_env N (enumF 0 vl) hf hb hN (fun a ha k v hk => ?_) hl h
  obtain ⟨-, h2⟩ := lk_enumF vl 0 k v hk
  rw [Nat.sub_zero] at h2
  have hlt : k < vl.length := (List.getElem?_eq_some_iff.1 h2).1
  simp only [Act.eval, Array.getD_eq_getD_getElem?, ha]
  rw [Array.getElem?_append_left (by simpa using hlt)]
  simp [h2]

section
variable {P : Program} {ops : Array Oper} {Q : Exit → Act → World → Prop} {a : Act} {w : World} {rest : List Oper} {o : Oper} {N k : Nat} {F : List (Nat × Value)}
/-- An operation that yields a value. -/
theorem lV (v : Value) {w' : World} (he : Env N F a) (hd : o.dst = some k) (hk : Nat.blt k N = true) (hw : Region.wanted o (yielded ops a.tmps) = true) (h : (execOp a.eval o).run P w = .ok (.value v) w')
    (next : ∀ a', Env N ((k, v) :: F) a' → wpList P ops Q rest a' w') : wpList P ops Q (o :: rest) a w :=
  wpList_step fun K hK => by rw [if_pos hw]; exact wp_valw h (hK _ _ (by rw [hd]; exact next _ (he.put hk v)))
/-- An operation that is not asked for. -/
theorem lSkip (he : Env N F a) (hd : o.dst = some k) (hk : Nat.blt k N = true) (hw : Region.wanted o (yielded ops a.tmps) = false)
    (next : ∀ a', Env N ((k, undef) :: F) a' → wpList P ops Q rest a' w) : wpList P ops Q (o :: rest) a w :=
  wpList_step fun K hK => by rw [if_neg (by simp [hw])]; exact hK _ _ (by rw [hd]; exact next _ (he.put hk undef))
/-- A call that returns this. -/
theorem lC {f : FuncId} {fn : Func} {c : Code} {l : List Operand} {ats : Array TypeId} {vl : List Value} {v : Value} {R : World → Prop} (he : Env N F a) (hd : o.dst = some k) (hk : Nat.blt k N = true)
    (hf : P.funcs[f]? = some fn) (hname : (fn.name == "runtime.NumGoroutine") = false) (hb : fn.body = some c) (ho : o.op = .call { callee := .value (.func f), args := l.toArray, argTypes := ats })
    (hw : Region.wanted o (yielded ops a.tmps) = true) (hv : evL F l = some vl) (hc : Calls P f vl.toArray w fun e w' => e = .returned v ∧ R w')
    (next : ∀ w' a', R w' → Env N ((k, v) :: F) a' → wpList P ops Q rest a' w') : wpList P ops Q (o :: rest) a w :=
  wpList_step fun K hK => by
    rw [if_pos hw]
    exact wp_callF hf hname hb ho (he.args hv) (hc.mono fun e w' ⟨h1, h2⟩ => ⟨v, h1, hK _ _ (by rw [hd]; exact next _ _ h2 (he.put hk v))⟩)
/-- A call of which something is known. -/
theorem lCx {f : FuncId} {fn : Func} {c : Code} {l : List Operand} {ats : Array TypeId} {vl : List Value} {R : Ending → World → Prop} (he : Env N F a) (hd : o.dst = some k) (hk : Nat.blt k N = true)
    (hf : P.funcs[f]? = some fn) (hname : (fn.name == "runtime.NumGoroutine") = false) (hb : fn.body = some c) (ho : o.op = .call { callee := .value (.func f), args := l.toArray, argTypes := ats })
    (hw : Region.wanted o (yielded ops a.tmps) = true) (hv : evL F l = some vl) (hc : Calls P f vl.toArray w R)
    (next : ∀ e w', R e w' → ∃ v, e = .returned v ∧ ∀ a', Env N ((k, v) :: F) a' → wpList P ops Q rest a' w') : wpList P ops Q (o :: rest) a w :=
  wpList_step fun K hK => by
    rw [if_pos hw]
    exact wp_callF hf hname hb ho (he.args hv) (hc.mono fun e w' h => let ⟨v, h1, h2⟩ := next e w' h; ⟨v, h1, hK _ _ (by rw [hd]; exact h2 _ (he.put hk v))⟩)
/-- An operation that makes a block. -/
theorem lNew (mk : Nat → Value) {t : TypeId} {cs : Array Value} {w0 : World} {H : List Bk} (he : Env N F a) (hH : Hp w0 H w) (hd : o.dst = some k) (hk : Nat.blt k N = true)
    (hw : Region.wanted o (yielded ops a.tmps) = true) (h : (execOp a.eval o).run P w = .ok (.value (mk w.heap.size)) (w.alloc (.cells cs t)))
    (next : ∀ p w' a', New w w' → Hp w0 (⟨p, t, cs⟩ :: H) w' → Env N ((k, mk p) :: F) a' → wpList P ops Q rest a' w') : wpList P ops Q (o :: rest) a w :=
  wpList_step fun K hK => by rw [if_pos hw]; exact wp_valw h (hK _ _ (by rw [hd]; exact next _ _ _ ((Fr.refl _ _).alloc _) (hH.alloc t cs) (he.put hk _)))
end

/-- What is stored into a part of a block, whatever follows. -/
theorem store_does {w : World} {o : Oper} {a : Act} {Q : Exit → Act → World → Prop} {K : Act → World → Prop} {ty : TypeId} {x y : Operand} (ho : o.op = .store ty x y)
    {g i : Nat} {t : TypeId} {cur news : Array Value} (hx : a.eval x = .pointer (some ⟨g, i, none⟩)) (hy : a.eval y = .agg news) (hg : Blk w g t cur)
    (hi : (Tryd.prog.info? ty).map (·.size) = some news.size) (hfit : i + news.size ≤ cur.size) (h1 : ∀ u ∈ news.toList, u.oneCell' = true)
    (h : ∀ w', Blk w' g t (lay cur i news) → Fr (fun k => k = g) w w' → w'.heap.size = w.heap.size → K (a.put o.dst undef) w') : Oper.wp Tryd.prog o a w K Q := by
  have hs := run_storeCells_at Tryd.prog g i t news.toList 0 cur w hg (by simpa using hfit) h1
  have hrun : (storeVar ty ⟨g, i, none⟩ (.agg news)).run Tryd.prog w = .ok () (w.setRow g (lay cur i news)) := by
    cases hq : Tryd.prog.info? ty with
    | none => simp [hq] at hi
    | some inf =>
      have hsz : news.size = inf.size := by simp [hq] at hi; omega
      simp only [Nat.add_zero, Array.length_toList] at hs
      simp [storeVar, sizeOf, typeInfo, hq, Value.cells, hsz, hs, lay]
  unfold Oper.wp execOp
  simp only [ho, hx, hy, Instr.storeAt, Instr.sureAddr, Sem.run_bind, Sem.run_pure, Result.andThen_ok, hrun]
  exact h _ (setRow_heap w g cur _ t _ hg) (fr_setRow w g _) (by simp)
def oneAll (cs : Array Value) : Bool := cs.toList.all (·.oneCell')
theorem oneAll_mem {cs : Array Value} (h : oneAll cs = true) : ∀ u ∈ cs.toList, u.oneCell' = true := fun u hu => by
  unfold oneAll at h
  rw [List.all_eq_true] at h
  exact h u hu

section
variable {ops : Array Oper} {Q : Exit → Act → World → Prop} {a : Act} {w w0 : World} {rest : List Oper} {o : Oper} {N k : Nat} {F : List (Nat × Value)} {H : List Bk}
/-- A store into block number i of the call's own. -/
theorem lSet (i : Nat) {off : Nat} {b : Bk} {cs news : Array Value} {ty : TypeId} {x y : Operand} (he : Env N F a) (hH : Hp w0 H w) (hd : o.dst = none) (hw : Region.wanted o (yielded ops a.tmps) = true)
    (ho : o.op = .store ty x y) (hb : H[i]? = some b) (hx : evO F x = some (.pointer (some ⟨b.p, off, none⟩))) (hy : evO F y = some (.agg news))
    (hi : (Tryd.prog.info? ty).map (·.size) = some news.size) (hfit : Nat.ble (off + news.size) b.cs.size = true) (h1 : oneAll news = true) (hcs : lay b.cs off news = cs)
    (next : ∀ w' a', Hp w0 (H.set i ⟨b.p, b.t, cs⟩) w' → Env N F a' → wpList Tryd.prog ops Q rest a' w') : wpList Tryd.prog ops Q (o :: rest) a w :=
  wpList_step fun K hK => by
    rw [if_pos hw]
    exact store_does ho (he.op hx) (he.op hy) (hH.at hb) hi (Nat.le_of_ble_eq_true hfit) (oneAll_mem h1) (fun w' hB hf _ => hK _ _ (by rw [hd]; exact next _ _ (hH.set hb (hcs ▸ hB) hf) (he.put0 _)))
end

/-! ### Steps of a region that draws its order -/
section
variable {P : Program} {md : Region.Mode} {ops : Array Oper} {Q : Exit → Act → World → Prop} {a : Act} {w : World} {S : World → Prop} {fuel : Nat} {listed : Array Bool} {N k : Nat} {F : List (Nat × Value)}
/-- An operation that may come up yields the same in whatever world that is held. -/
theorem hV {i : Nat} {o : Oper} (v : Value) (he : Env N F a) (ho : ops[i]? = some o) (hd : o.dst = some k) (hk : Nat.blt k N = true) (hs : Region.noSelect ops = true) (hf : Region.free md ops listed i = true) (hr : (Region.ready md ops listed).contains i = true)
    (hQ : ∀ c a w, Q (.panic c) (a.put o.dst v) w → Q (.panic c) a w) (hw : Region.wanted o (yielded ops a.tmps) = true) (h : ∀ w', S w' → (execOp a.eval o).run P w' = .ok (.value v) w') (hS : S w)
    (next : ∀ a', Env N ((k, v) :: F) a' → wpAnyH P md ops Q S fuel (listed.setIfInBounds i true) a' w) : wpAnyH P md ops Q S (fuel + 1) listed a w :=
  wpAnyH_take ho hs hf hr hQ (Or.inl ⟨hw, h⟩) hS (by rw [hd]; exact next _ (he.put hk v))
theorem hSkip {i : Nat} {o : Oper} (he : Env N F a) (ho : ops[i]? = some o) (hd : o.dst = some k) (hk : Nat.blt k N = true) (hs : Region.noSelect ops = true) (hf : Region.free md ops listed i = true) (hr : (Region.ready md ops listed).contains i = true)
    (hQ : ∀ c a w, Q (.panic c) (a.put o.dst undef) w → Q (.panic c) a w) (hw : Region.wanted o (yielded ops a.tmps) = false) (hS : S w)
    (next : ∀ a', Env N ((k, undef) :: F) a' → wpAnyH P md ops Q S fuel (listed.setIfInBounds i true) a' w) : wpAnyH P md ops Q S (fuel + 1) listed a w :=
  wpAnyH_take ho hs hf hr hQ (Or.inr ⟨hw, rfl⟩) hS (by rw [hd]; exact next _ (he.put hk undef))
/-- A call that alone may come up. -/
theorem hC {i : Nat} {o : Oper} {f : FuncId} {fn : Func} {c : Code} {l : List Operand} {ats : Array TypeId} {vl : List Value} {R : Ending → World → Prop} (he : Env N F a) (hr : Region.ready md ops listed = [i]) (hoi : ops[i]? = some o) (hd : o.dst = some k) (hk : Nat.blt k N = true)
    (hf : P.funcs[f]? = some fn) (hname : (fn.name == "runtime.NumGoroutine") = false) (hb : fn.body = some c) (ho : o.op = .call { callee := .value (.func f), args := l.toArray, argTypes := ats })
    (hw : Region.wanted o (yielded ops a.tmps) = true) (hv : evL F l = some vl) (hc : Calls P f vl.toArray w R)
    (next : ∀ e w', R e w' → ∃ v, e = .returned v ∧ S w' ∧ ∀ a', Env N ((k, v) :: F) a' → wpAnyH P md ops Q S fuel (listed.setIfInBounds i true) a' w') : wpAnyH P md ops Q S (fuel + 1) listed a w :=
  allH hr hoi hw (fun K hK => wp_callF hf hname hb ho (he.args hv) (hc.mono fun e w' h => let ⟨v, h1, hS, h2⟩ := next e w' h; ⟨v, h1, hK _ _ hS (by rw [hd]; exact h2 _ (he.put hk v))⟩))
/-- An operation that alone may come up, and yields a value in the world at hand. -/
theorem hVa {i : Nat} {o : Oper} (v : Value) (he : Env N F a) (hr : Region.ready md ops listed = [i]) (hoi : ops[i]? = some o) (hd : o.dst = some k) (hk : Nat.blt k N = true) (hw : Region.wanted o (yielded ops a.tmps) = true)
    (hrun : (execOp a.eval o).run P w = .ok (.value v) w) (hS : S w) (next : ∀ a', Env N ((k, v) :: F) a' → wpAnyH P md ops Q S fuel (listed.setIfInBounds i true) a' w) : wpAnyH P md ops Q S (fuel + 1) listed a w :=
  allH hr hoi hw (fun _ hK => wp_val hrun (hK _ _ hS (by rw [hd]; exact next _ (he.put hk v))))
/-- Three allocations in whatever order. -/
theorem hThree {i j l x y z : Nat} {oi oj ok : Oper} {t : TypeId} {cs : Array Value} {w0 : World} {H : List Bk} (hij : i ≠ j) (hik : i ≠ l) (hjk : j ≠ l) (hxy : x ≠ y) (hxz : x ≠ z) (hyz : y ≠ z) (he : Env N F a) (kx : Nat.blt x N = true) (ky : Nat.blt y N = true) (kz : Nat.blt z N = true)
    (hi : ops[i]? = some oi) (hj : ops[j]? = some oj) (hk : ops[l]? = some ok) (gi : oi.guard = none) (gj : oj.guard = none) (gk : ok.guard = none) (di : oi.dst = some x) (dj : oj.dst = some y) (dk : ok.dst = some z)
    (ri : ∀ (a : Act) (w : World), (execOp a.eval oi).run P w = .ok (.value (.pointer (some ⟨w.heap.size, 0, none⟩))) (w.alloc (.cells cs t)))
    (rj : ∀ (a : Act) (w : World), (execOp a.eval oj).run P w = .ok (.value (.pointer (some ⟨w.heap.size, 0, none⟩))) (w.alloc (.cells cs t)))
    (rk : ∀ (a : Act) (w : World), (execOp a.eval ok).run P w = .ok (.value (.pointer (some ⟨w.heap.size, 0, none⟩))) (w.alloc (.cells cs t)))
    (r0 : Region.ready md ops listed = [i, j, l]) (r1 : Region.ready md ops (listed.setIfInBounds i true) = [j, l]) (r2 : Region.ready md ops (listed.setIfInBounds j true) = [i, l]) (r3 : Region.ready md ops (listed.setIfInBounds l true) = [i, j])
    (r12 : Region.ready md ops ((listed.setIfInBounds i true).setIfInBounds j true) = [l]) (r13 : Region.ready md ops ((listed.setIfInBounds i true).setIfInBounds l true) = [j]) (r23 : Region.ready md ops ((listed.setIfInBounds j true).setIfInBounds l true) = [i])
    (hS : ∀ w w' : World, S w → New w w' → S w') (hH : Hp w0 H w) (h0 : S w)
    (next : ∀ p q r w' a', New w w' → S w' → Hp w0 (⟨p, t, cs⟩ :: ⟨q, t, cs⟩ :: ⟨r, t, cs⟩ :: H) w' → Env N ((z, .pointer (some ⟨r, 0, none⟩)) :: (y, .pointer (some ⟨q, 0, none⟩)) :: (x, .pointer (some ⟨p, 0, none⟩)) :: F) a' →
      wpAnyH P md ops Q S fuel (((listed.setIfInBounds i true).setIfInBounds j true).setIfInBounds l true) a' w') :
    wpAnyH P md ops Q S (fuel + 3) listed a w :=
  three hij hik hjk hxy hxz hyz hi hj hk gi gj gk di dj dk ri rj rk r0 r1 r2 r3 r12 r13 r23 hS h0 (fun p q r hpq hpr hqr p1 q1 r1 p2 q2 r2 s => by
    have n1 : New w (w.alloc (.cells cs t)) := (Fr.refl _ _).alloc _
    have n2 : New w ((w.alloc (.cells cs t)).alloc (.cells cs t)) := Fr.alloc n1 _
    have n3 : New w (((w.alloc (.cells cs t)).alloc (.cells cs t)).alloc (.cells cs t)) := Fr.alloc n2 _
    have hz : ∀ j, w.heap.size ≤ j → j < w.heap.size + 3 → Blk (((w.alloc (.cells cs t)).alloc (.cells cs t)).alloc (.cells cs t)) j t cs := fun j h1 h2 => by
      have h3 : j = w.heap.size ∨ j = w.heap.size + 1 ∨ j = w.heap.size + 2 := by omega
      rcases h3 with rfl | rfl | rfl
      · exact ((Blk.new w _ _).alloc _).alloc _
      · have := (Blk.new (w.alloc (.cells cs t)) t cs).alloc (.cells cs t)
        rwa [show (w.alloc (.cells cs t)).heap.size = w.heap.size + 1 by simp] at this
      · have := Blk.new ((w.alloc (.cells cs t)).alloc (.cells cs t)) t cs
        rwa [show ((w.alloc (.cells cs t)).alloc (.cells cs t)).heap.size = w.heap.size + 2 by simp] at this
    refine next p q r _ _ n3 s ?_ (((he.put kx _).put ky _).put kz _)
    have hH3 := hH.call n3
    have key : ∀ c ∈ H, c.p < w.heap.size := fun c hc => (hH.bl c hc).2.lt
    have hlo := hH.new.size
    refine ⟨hH3.new, ?_, ?_⟩
    · intro u v b c hu hv huv
      match u, v, hu, hv, huv with
      | 0, 0, _, _, e => exact absurd rfl e
      | 1, 1, _, _, e => exact absurd rfl e
      | 2, 2, _, _, e => exact absurd rfl e
      | 0, 1, hu, hv, _ => simp at hu hv; subst hu; subst hv; exact hpq
      | 0, 2, hu, hv, _ => simp at hu hv; subst hu; subst hv; exact hpr
      | 1, 0, hu, hv, _ => simp at hu hv; subst hu; subst hv; exact hpq.symm
      | 1, 2, hu, hv, _ => simp at hu hv; subst hu; subst hv; exact hqr
      | 2, 0, hu, hv, _ => simp at hu hv; subst hu; subst hv; exact hpr.symm
      | 2, 1, hu, hv, _ => simp at hu hv; subst hu; subst hv; exact hqr.symm
      | 0, v + 3, hu, hv, _ => simp at hu hv; subst hu; have := key c (List.mem_of_getElem? hv); simp only; omega
      | 1, v + 3, hu, hv, _ => simp at hu hv; subst hu; have := key c (List.mem_of_getElem? hv); simp only; omega
      | 2, v + 3, hu, hv, _ => simp at hu hv; subst hu; have := key c (List.mem_of_getElem? hv); simp only; omega
      | u + 3, 0, hu, hv, _ => simp at hu hv; subst hv; have := key b (List.mem_of_getElem? hu); simp only; omega
      | u + 3, 1, hu, hv, _ => simp at hu hv; subst hv; have := key b (List.mem_of_getElem? hu); simp only; omega
      | u + 3, 2, hu, hv, _ => simp at hu hv; subst hv; have := key b (List.mem_of_getElem? hu); simp only; omega
      | u + 3, v + 3, hu, hv, e => exact hH.nd u v b c (by simpa using hu) (by simpa using hv) (by omega)
    · intro b hb
      rcases List.mem_cons.1 hb with rfl | hb
      · exact ⟨Nat.le_trans hlo p1, hz p p1 p2⟩
      rcases List.mem_cons.1 hb with rfl | hb
      · exact ⟨Nat.le_trans hlo q1, hz q q1 q2⟩
      rcases List.mem_cons.1 hb with rfl | hb
      · exact ⟨Nat.le_trans hlo r1, hz r r1 r2⟩
      · exact hH3.bl b hb)
end
section
variable {md : Region.Mode} {ops : Array Oper} {Q : Exit → Act → World → Prop} {a : Act} {w w0 : World} {S : World → Prop} {fuel : Nat} {listed : Array Bool} {N k : Nat} {F : List (Nat × Value)} {H : List Bk}
/-- A store that alone may come up, into block number i of the call's own. -/
theorem hSet {n : Nat} {o : Oper} (i : Nat) {off : Nat} {b : Bk} {cs news : Array Value} {ty : TypeId} {x y : Operand} (he : Env N F a) (hH : Hp w0 H w) (hr : Region.ready md ops listed = [n]) (hoi : ops[n]? = some o) (hd : o.dst = none) (hw : Region.wanted o (yielded ops a.tmps) = true)
    (ho : o.op = .store ty x y) (hb : H[i]? = some b) (hx : evO F x = some (.pointer (some ⟨b.p, off, none⟩))) (hy : evO F y = some (.agg news))
    (hi : (Tryd.prog.info? ty).map (·.size) = some news.size) (hfit : Nat.ble (off + news.size) b.cs.size = true) (h1 : oneAll news = true) (hcs : lay b.cs off news = cs)
    (next : ∀ w' a', Hp w0 (H.set i ⟨b.p, b.t, cs⟩) w' → Fr (fun k => k = b.p) w w' → Env N F a' → S w' ∧ wpAnyH Tryd.prog md ops Q S fuel (listed.setIfInBounds n true) a' w') : wpAnyH Tryd.prog md ops Q S (fuel + 1) listed a w :=
  allH hr hoi hw (fun K hK => store_does ho (he.op hx) (he.op hy) (hH.at hb) hi (Nat.le_of_ble_eq_true hfit) (oneAll_mem h1) (fun w' hB hf _ => by
    have := next w' (a.put none undef) (hH.set hb (hcs ▸ hB) hf) hf (he.put0 _)
    rw [hd]
    exact hK _ _ this.1 this.2))
end
theorem seq3_cut {P : Program} {Q : Exit → Act → World → Prop} {a : Act} {w : World} {x y u z : Code} (I : Act → World → Prop) (hz : ∀ a w, I a w → z.wp P Q a w)
    (h : ∀ z' : Code, (∀ a w, I a w → z'.wp P Q a w) → (x.seq (y.seq (u.seq z'))).wp P Q a w) : (x.seq (y.seq (u.seq z))).wp P Q a w := h z hz
theorem least (p : Nat → Prop) : ∀ n, p n → ∃ m, p m ∧ ∀ k, p k → m ≤ k := by
  intro n
  induction n using Nat.strongRecOn with
  | _ n ih =>
    intro hn
    by_cases h : ∃ k, k < n ∧ p k
    · obtain ⟨k, hk, hp⟩ := h
      exact ih k hk hp
    · exact ⟨n, hn, fun k hk => Nat.le_of_not_lt fun hlt => h ⟨k, hlt, hk⟩⟩
section
variable {P : Program} {Q : Exit → Act → World → Prop} {a : Act} {w : World}
/-- A loop whose rounds count down. -/
theorem loop_nat {c : Code} (I : Nat → Act → World → Prop) (n : Nat) (h0 : I n a w) (round : ∀ m a w, I m a w → c.wp P (Exit.then (fun a' w' => ∃ m', m' < m ∧ I m' a' w') Q) a w) : (Code.loop c).wp P Q a w := by
  classical
  have hl : ∀ a w, (∃ m, I m a w) → ∃ m, I m a w ∧ ∀ k, I k a w → m ≤ k := fun a w ⟨m, h⟩ => least (fun m => I m a w) m h
  refine wp_loop (fun a w => ∃ m, I m a w) (fun a w => if h : ∃ m, I m a w then Classical.choose (hl a w h) else 0) ⟨n, h0⟩ (fun a w hI => ?_)
  have hm := Classical.choose_spec (hl a w hI)
  refine wp_mono (round _ a w hm.1) (fun e a' w' h => ?_)
  cases e with
  | normal =>
    obtain ⟨m', hlt, h'⟩ := h
    have hE : ∃ m, I m a' w' := ⟨m', h'⟩
    refine ⟨hE, ?_⟩
    simp only [dif_pos hE, dif_pos hI]
    exact Nat.lt_of_le_of_lt ((Classical.choose_spec (hl a' w' hE)).2 m' h') hlt
  | _ => exact h
end
end Go.Proofs.YtjcpdldaimebbaaDoor
