/-
  The words of a cell: the specification's and the program's.
  Regions that draw their order: an allocation that alone may come up, a call beside an allocation; and regions of calls and allocations of which only so much is known as no other one turns, whatever the order.
  The cells of words: the specification's and the program's.
  packed.withRun: one run more, of a row of the caller's own.
  Rows of the call's own: append, and what else is known behind it; rows of cells as records; make.
  packed.counted.
  packed.Pack, slices.Clone, packed.Join.
  The specification's Pack.
  packed.Unpack and the specification's Cells.
  Regions of calls and allocations in whatever order: what is known of each slot.
-/
import Derived.Test.YtjcpdldaimebbaaDoorKOps
import Derived.Test.YtjcpdldaimebbaaDoorPRUn
import Derived.Test.YtjcpdldaimebbaaDoorDValid
import Derived.Laws.MakeOwn
namespace Go.Proofs.YtjcpdldaimebbaaDoor
open Go.RowKit

section
variable {ρ : Operand → Value} {o : Oper} {x y : Operand}
theorem rn_ixM0 {a b c : Int} (h : o.op = .index 52 x y) (hx : ρ x = .agg #[.int .i32 a, .int .i32 b, .int .i32 c]) (hy : ρ y = .int .i64 0) (w : World) : (execOp ρ o).run Tryd.prog w = .ok (.value (.int .i32 a)) w := by
  unfold execOp
  simp only [h, hx, hy, Sem.run_bind, ix0 a b c w, Result.andThen_ok, Sem.run_pure]
theorem rn_ixM1 {a b c : Int} (h : o.op = .index 52 x y) (hx : ρ x = .agg #[.int .i32 a, .int .i32 b, .int .i32 c]) (hy : ρ y = .int .i64 1) (w : World) : (execOp ρ o).run Tryd.prog w = .ok (.value (.int .i32 b)) w := by
  unfold execOp
  simp only [h, hx, hy, Sem.run_bind, ix1 a b c w, Result.andThen_ok, Sem.run_pure]
theorem rn_ixM2 {a b c : Int} (h : o.op = .index 52 x y) (hx : ρ x = .agg #[.int .i32 a, .int .i32 b, .int .i32 c]) (hy : ρ y = .int .i64 2) (w : World) : (execOp ρ o).run Tryd.prog w = .ok (.value (.int .i32 c)) w := by
  unfold execOp
  simp only [h, hx, hy, Sem.run_bind, ix2 a b c w, Result.andThen_ok, Sem.run_pure]
end
end Go.Proofs.YtjcpdldaimebbaaDoor
namespace Go.Proofs.YtjcpdldaimebbaaDoor
open Go.RowKit

theorem Hp.drop1 {w0 w : World} {H : List Bk} (h : Hp w0 H w) (i : Nat) {G : List Bk} (e : H.eraseIdx i = G) : Hp w0 G w := by
  subst e
  have key : ∀ (j : Nat) (b : Bk), (H.eraseIdx i)[j]? = some b → ∃ j', H[j']? = some b ∧ j' ≠ i ∧ (j' = if j < i then j else j + 1) := by
    intro j b hj
    rw [List.getElem?_eraseIdx] at hj
    split at hj
    · rename_i hlt; exact ⟨j, hj, by omega, by rw [if_pos hlt]⟩
    · rename_i hlt; exact ⟨j + 1, hj, by omega, by rw [if_neg hlt]⟩
  refine ⟨h.new, ?_, fun b hb => h.bl b (List.mem_of_mem_eraseIdx hb)⟩
  intro j k b c hj hk hjk
  obtain ⟨j', h1, -, e1⟩ := key j b hj
  obtain ⟨k', h2, -, e2⟩ := key k c hk
  exact h.nd j' k' b c h1 h2 (fun e => hjk (by split at e1 <;> split at e2 <;> omega))
section
variable {P : Program} {ops : Array Oper} {Q : Exit → Act → World → Prop} {S : World → Prop} {md : Region.Mode} {fuel : Nat} {listed : Array Bool} {a : Act} {w w0 : World} {N k : Nat} {F : List (Nat × Value)} {H : List Bk}
/-- An allocation that alone may come up. -/
theorem hNew {i : Nat} {o : Oper} (mk : Nat → Value) {t : TypeId} {cs : Array Value} (he : Env N F a) (hH : Hp w0 H w) (hr : Region.ready md ops listed = [i]) (hoi : ops[i]? = some o) (hd : o.dst = some k) (hk : Nat.blt k N = true)
    (hw : Region.wanted o (yielded ops a.tmps) = true) (h : (execOp a.eval o).run P w = .ok (.value (mk w.heap.size)) (w.alloc (.cells cs t)))
    (next : ∀ p w' a', New w w' → Hp w0 (⟨p, t, cs⟩ :: H) w' → Env N ((k, mk p) :: F) a' → S w' ∧ wpAnyH P md ops Q S fuel (listed.setIfInBounds i true) a' w') : wpAnyH P md ops Q S (fuel + 1) listed a w :=
  allH hr hoi hw (fun K hK => wp_valw h (by
    have := next w.heap.size _ _ ((Fr.refl _ _).alloc _) (hH.alloc t cs) (he.put hk (mk w.heap.size))
    rw [hd]
    exact hK _ _ this.1 this.2))
theorem does_call {f : FuncId} {fn : Func} {c : Code} {l : List Operand} {ats : Array TypeId} {vs : Array Value} {R : Ending → World → Prop} {post : Value → World → Prop} {o : Oper} (hf : P.funcs[f]? = some fn) (hname : (fn.name == "runtime.NumGoroutine") = false) (hb : fn.body = some c)
    (ho : o.op = .call { callee := .value (.func f), args := l.toArray, argTypes := ats }) (hv : l.toArray.map a.eval = vs) (hc : Calls P f vs w R) (h : ∀ e w', R e w' → ∃ v, e = .returned v ∧ post v w') : Does P Q o a w post :=
  fun _ hK => wp_callF hf hname hb ho hv (hc.mono fun e w' hr => let ⟨v, h1, h2⟩ := h e w' hr; ⟨v, h1, hK _ _ h2⟩)
/-- A call that returns this, beside an allocation: either comes first. -/
theorem hCA {i j x y : Nat} {oi oj : Oper} (mk : Nat → Value) {t : TypeId} {cs : Array Value} {f : FuncId} {fn : Func} {c : Code} {l : List Operand} {ats : Array TypeId} {vl : List Value} {v : Value} (he : Env N F a) (hH : Hp w0 H w) (kx : Nat.blt x N = true) (ky : Nat.blt y N = true)
    (r0 : Region.ready md ops listed = [i, j]) (rj : Region.ready md ops (listed.setIfInBounds j true) = [i])
    (hi : ops[i]? = some oi) (hj : ops[j]? = some oj) (di : oi.dst = some x) (dj : oj.dst = some y) (gi : oi.guard = none) (gj : oj.guard = none)
    (hf : P.funcs[f]? = some fn) (hname : (fn.name == "runtime.NumGoroutine") = false) (hb : fn.body = some c) (ho : oi.op = .call { callee := .value (.func f), args := l.toArray, argTypes := ats }) (hv : ∀ u, evL ((y, u) :: F) l = some vl) (hv0 : evL F l = some vl)
    (hc : ∀ w, New w0 w → Calls P f vl.toArray w fun e w' => e = .returned v ∧ New w w') (hal : ∀ (a : Act) (w : World), (execOp a.eval oj).run P w = .ok (.value (mk w.heap.size)) (w.alloc (.cells cs t)))
    (hS : ∀ w', Hp w0 H w' → S w')
    (first : ∀ w' a', Hp w0 H w' → Env N ((x, v) :: F) a' → wpAnyH P md ops Q S (fuel + 1) (listed.setIfInBounds i true) a' w')
    (second : ∀ p w' a', Hp w0 (⟨p, t, cs⟩ :: H) w' → Env N ((x, v) :: (y, mk p) :: F) a' → wpAnyH P md ops Q S fuel ((listed.setIfInBounds j true).setIfInBounds i true) a' w') : wpAnyH P md ops Q S (fuel + 2) listed a w := by
  refine stepH (fuel := fuel + 1) r0 (by simp) (fun n hn => ?_)
  rcases List.mem_cons.1 hn with rfl | hn
  · refine ⟨oi, hi, wanted_plain gi _, (fun u w' => u = v ∧ New w w'), does_call hf hname hb ho (he.args hv0) (hc w hH.new) (fun e w' h => ⟨v, h.1, rfl, h.2⟩), ?_⟩
    rintro v' w1 ⟨rfl, n1⟩
    have h1 := hH.call n1
    rw [di]
    exact ⟨hS _ h1, first _ _ h1 (he.put kx _)⟩
  · obtain rfl := List.mem_singleton.1 hn
    refine ⟨oj, hj, wanted_plain gj _, (fun u w2 => u = mk w.heap.size ∧ w2 = w.alloc (.cells cs t)), Does.val (hal _ _) ⟨rfl, rfl⟩, ?_⟩
    rintro u w1 ⟨rfl, rfl⟩
    have h1 := hH.alloc t cs
    have n1 : New w (w.alloc (.cells cs t)) := (Fr.refl _ _).alloc _
    refine ⟨hS _ (hH.call n1), stepH (fuel := fuel) rj (by simp) (fun m hm => ?_)⟩
    obtain rfl := List.mem_singleton.1 hm
    rw [dj]
    refine ⟨oi, hi, wanted_plain gi _, (fun u w' => u = v ∧ New (w.alloc (.cells cs t)) w'), does_call hf hname hb ho ((he.put ky (mk w.heap.size)).args (hv _)) (hc _ h1.new) (fun e w' h => ⟨v, h.1, rfl, h.2⟩), ?_⟩
    rintro v' w2 ⟨rfl, n2⟩
    rw [di]
    exact ⟨hS _ ((hH.call n1).call n2), second _ _ _ (h1.call n2) ((he.put ky _).put kx _)⟩

/-! ### Whatever the order -/
def depsOf (md : Region.Mode) (o : Oper) : List Nat := (o.after.toList.filter (Region.binds md)).map (·.on)
def dstOf (ops : Array Oper) (j : Nat) : Nat := ((ops[j]?).bind (·.dst)).getD 0
/-- What is known of the slots that the region doesn't write, and of the world. -/
structure Base (N : Nat) (F : List (Nat × Value)) (S : World → Prop) (a : Act) (w : World) : Prop where
  env : Env N F a
  held : S w
/-- One operation of it: behind those that it waits for it does what is known of it. -/
def StepOk (P : Program) (md : Region.Mode) (ops : Array Oper) (Q : Exit → Act → World → Prop) (N : Nat) (F : List (Nat × Value)) (S : World → Prop) (I : Nat → Value → World → Prop) (k : Nat) (o : Oper) : Prop :=
  ∀ a w, Base N F S a w → (∀ j, (depsOf md o).contains j = true → I j (a.eval (.tmp (dstOf ops j))) w) →
    (Region.wanted o (yielded ops a.tmps) = false ∧ I k undef w) ∨ (Region.wanted o (yielded ops a.tmps) = true ∧ Does P Q o a w (fun v w' => New w w' ∧ I k v w'))
def StepsAll (P : Program) (md : Region.Mode) (ops : Array Oper) (Q : Exit → Act → World → Prop) (N : Nat) (F : List (Nat × Value)) (S : World → Prop) (I : Nat → Value → World → Prop) : Nat → List Oper → Prop
  | _, [] => True
  | k, o :: l => StepOk P md ops Q N F S I k o ∧ StepsAll P md ops Q N F S I (k + 1) l
theorem StepsAll.at {I : Nat → Value → World → Prop} : ∀ {l : List Oper} {i : Nat}, StepsAll P md ops Q N F S I i l → ∀ k o, l[k]? = some o → StepOk P md ops Q N F S I (i + k) o := by
  intro l
  induction l with
  | nil => intro i _ k o h; simp at h
  | cons x l ih =>
    intro i h k o hk
    cases k with
    | zero => simp only [List.getElem?_cons_zero, Option.some.injEq] at hk; subst hk; exact h.1
    | succ k =>
      have := ih h.2 k o (by simpa using hk)
      rwa [show i + 1 + k = i + (k + 1) by omega] at this
/-- The slots written are different ones, not among those that are known, and each operation waits for earlier ones alone. -/
def okOps (N : Nat) (F : List (Nat × Value)) : Nat → List Oper → List Nat → Bool
  | _, [], _ => true
  | k, o :: l, seen => (match o.dst with
    | some s => Nat.blt s N && !(seen.contains s) && (lk F s).isNone && o.after.toList.all (fun e => Nat.blt e.on k) && okOps N F (k + 1) l (s :: seen)
    | none => false)
theorem okOps_at : ∀ {l : List Oper} {i : Nat} {seen : List Nat}, okOps N F i l seen = true → ∀ k o, l[k]? = some o → ∃ s, o.dst = some s ∧ s < N ∧ s ∉ seen ∧ lk F s = none ∧ (∀ e ∈ o.after, e.on < i + k) ∧ ∀ j oj, j < k → l[j]? = some oj → oj.dst ≠ some s := by
  intro l
  induction l with
  | nil => intro i seen _ k o h; simp at h
  | cons x l ih =>
    intro i seen h k o hk
    simp only [okOps] at h
    cases hx : x.dst with
    | none => rw [hx] at h; cases h
    | some s =>
      rw [hx] at h
      simp only [Bool.and_eq_true, Bool.not_eq_true', Option.isNone_iff_eq_none, List.all_eq_true, Nat.blt_eq] at h
      obtain ⟨⟨⟨⟨h1, h2⟩, h3⟩, h4⟩, h5⟩ := h
      have h2' : s ∉ seen := fun hm => by
        have : seen.contains s = true := by simpa using hm
        rw [this] at h2; cases h2
      cases k with
      | zero =>
        simp only [List.getElem?_cons_zero, Option.some.injEq] at hk
        subst hk
        exact ⟨s, hx, h1, h2', h3, fun e he => by have := h4 e (by simpa using he); omega, fun j oj hj => by omega⟩
      | succ k =>
        obtain ⟨s', g1, g2, g3, g4, g5, g6⟩ := ih h5 k o (by simpa using hk)
        refine ⟨s', g1, g2, fun hm => g3 (List.mem_cons_of_mem _ hm), g4, fun e he => by have := g5 e he; omega, fun j oj hj hoj => ?_⟩
        cases j with
        | zero =>
          simp only [List.getElem?_cons_zero, Option.some.injEq] at hoj
          subst hoj
          rw [hx]
          simp only [ne_eq, Option.some.injEq]
          exact fun e => g3 (by rw [e]; exact List.mem_cons_self)
        | succ j => exact g6 j oj (by omega) (by simpa using hoj)
structure Got (N : Nat) (ops : Array Oper) (F : List (Nat × Value)) (S : World → Prop) (I : Nat → Value → World → Prop) (listed : Array Bool) (a : Act) (w : World) : Prop where
  size : listed.size = ops.size
  base : Base N F S a w
  got : ∀ k, listed.getD k false = true → I k (a.eval (.tmp (dstOf ops k))) w
theorem dst_at {k s : Nat} {o : Oper} (h : ops[k]? = some o) (hd : o.dst = some s) : dstOf ops k = s := by simp [dstOf, h, hd]
theorem Env.off {s : Nat} (he : Env N F a) (hf : lk F s = none) (v : Value) : Env N F (a.put (some s) v) := by
  refine ⟨by rw [sz_put]; exact he.sz, he.df, fun j u h => ?_⟩
  have hne : j ≠ s := fun e => by rw [e, hf] at h; cases h
  rw [ev_ne hne]
  exact he.ev j u h
theorem any_order {I : Nat → Value → World → Prop} (hok : okOps N F 0 ops.toList [] = true) (hI : ∀ k v w w', I k v w → New w w' → I k v w') (hS : ∀ w w', S w → New w w' → S w')
    (steps : StepsAll P md ops Q N F S I 0 ops.toList) (fin : ∀ a w, Base N F S a w → (∀ k, k < ops.size → I k (a.eval (.tmp (dstOf ops k))) w) → Q .normal a w) :
    ∀ (fuel : Nat) (listed : Array Bool) (a : Act) (w : World), Got N ops F S I listed a w → (listed.toList.filter (!·)).length ≤ fuel → wpAny P md ops Q fuel listed a w := by
  have hat : ∀ k o, ops[k]? = some o → ops.toList[k]? = some o := fun k o h => by rw [Array.getElem?_toList]; exact h
  have inj : ∀ (k j : Nat) (o oj : Oper) (s : Nat), ops[k]? = some o → ops[j]? = some oj → o.dst = some s → oj.dst = some s → k = j := by
    intro k j o oj s hk hj hd hd'
    rcases Nat.lt_trichotomy k j with h | h | h
    · obtain ⟨s', g1, _, _, _, _, g6⟩ := okOps_at hok j oj (hat _ _ hj)
      rw [hd'] at g1
      obtain rfl : s = s' := by simpa using g1
      exact absurd hd (g6 k o h (hat _ _ hk))
    · exact h
    · obtain ⟨s', g1, _, _, _, _, g6⟩ := okOps_at hok k o (hat _ _ hk)
      rw [hd] at g1
      obtain rfl : s = s' := by simpa using g1
      exact absurd hd' (g6 j oj h (hat _ _ hj))
  have nxt : ∀ (listed : Array Bool) (a : Act) (w w' : World) (k : Nat) (o : Oper) (v : Value), ops[k]? = some o → Got N ops F S I listed a w → New w w' → I k v w' → Got N ops F S I (listed.setIfInBounds k true) (a.put o.dst v) w' := by
    intro listed a w w' k o v hk h hn hv
    obtain ⟨s, g1, g2, _, g4, _, _⟩ := okOps_at hok k o (hat _ _ hk)
    rw [g1]
    refine ⟨by simpa using h.size, ⟨h.base.env.off g4 v, hS _ _ h.base.held hn⟩, fun j hj => ?_⟩
    by_cases hjk : k = j
    · subst hjk
      rw [dst_at hk g1, ev_same (by rw [h.base.env.sz]; exact g2)]
      exact hv
    · rw [getD_set_ne false hjk] at hj
      have hg := hI _ _ _ _ (h.got j hj) hn
      have hjl : j < ops.size := by
        rw [← h.size]
        rcases Nat.lt_or_ge j listed.size with h' | h'
        · exact h'
        · simp [Array.getElem?_eq_none h'] at hj
      have hoj : ops[j]? = some ops[j] := Array.getElem?_eq_getElem hjl
      obtain ⟨s', g1', _⟩ := okOps_at hok j _ (hat _ _ hoj)
      have hne : s' ≠ s := fun e => hjk (inj k j o _ s hk hoj g1 (by rw [g1', e]))
      rw [dst_at hoj g1', ev_ne hne]
      rwa [dst_at hoj g1'] at hg
  have done : ∀ (listed : Array Bool) (a : Act) (w : World), Got N ops F S I listed a w → Region.ready md ops listed = [] → ∀ k, k < ops.size → listed.getD k false = true := by
    intro listed a w h hr k
    induction k using Nat.strongRecOn with
    | _ k ih =>
      intro hk
      cases e : listed.getD k false with
      | true => rfl
      | false =>
        have hoj : ops[k]? = some ops[k] := Array.getElem?_eq_getElem hk
        obtain ⟨s, _, _, _, _, g5, _⟩ := okOps_at hok k _ (hat _ _ hoj)
        have : k ∈ Region.ready md ops listed := by
          rw [mem_ready]
          refine ⟨?_, _, hoj, fun x hx _ => ih x.on (by have := g5 x hx; omega) (by have := g5 x hx; omega)⟩
          have hl : k < listed.size := by rw [h.size]; exact hk
          simp only [Array.getD, hl, dif_pos] at e ⊢
          exact e
        rw [hr] at this
        cases this
  have count : ∀ (listed : Array Bool) (k : Nat), listed.getD k true = false → ((listed.setIfInBounds k true).toList.filter (!·)).length + 1 ≤ (listed.toList.filter (!·)).length := by
    intro listed k hk
    have hl : k < listed.toList.length := by
      rcases Nat.lt_or_ge k listed.size with h' | h'
      · simpa using h'
      · simp [Array.getElem?_eq_none h'] at hk
    have hv : listed.toList[k] = false := by
      simp only [Array.length_toList] at hl
      simp only [Array.getD, hl, dif_pos] at hk
      simpa using hk
    rw [Array.toList_setIfInBounds]
    generalize listed.toList = L at hl hv
    have e1 : L.set k true = L.take k ++ true :: L.drop (k + 1) := by rw [List.set_eq_take_append_cons_drop, if_pos hl]
    have e2 : L = L.take k ++ false :: L.drop (k + 1) := by
      conv => lhs; rw [← List.take_append_drop k L, List.drop_eq_getElem_cons hl, hv]
    rw [e1]
    conv => rhs; rw [e2]
    simp only [List.filter_append, List.length_append]
    simp
    omega
  intro fuel
  induction fuel with
  | zero =>
    intro listed a w h hf
    have hr : Region.ready md ops listed = [] := by
      rw [List.eq_nil_iff_forall_not_mem]
      intro k hk
      have := count listed k (mem_ready.1 hk).1
      omega
    exact ⟨hr, fin a w h.base (fun k hk => h.got k (done listed a w h hr k hk))⟩
  | succ fuel ih =>
    intro listed a w h hf
    refine ⟨fun hr => fin a w h.base (fun k hk => h.got k (done listed a w h hr k hk)), fun k hk => ?_⟩
    have hc := count listed k (mem_ready.1 hk).1
    obtain ⟨hk0, o, hko, hall⟩ := mem_ready.1 hk
    have hs := steps.at k o (hat _ _ hko)
    rw [Nat.zero_add] at hs
    have hd : ∀ j, (depsOf md o).contains j = true → I j (a.eval (.tmp (dstOf ops j))) w := by
      intro j hj
      have hj' : j ∈ depsOf md o := by simpa using hj
      obtain ⟨e, he, rfl⟩ := List.mem_map.1 hj'
      obtain ⟨he1, he2⟩ := List.mem_filter.1 he
      exact h.got _ (hall e (by simpa using he1) he2)
    unfold wpOp
    rw [hko]
    rcases hs a w h.base hd with ⟨hw, hi⟩ | ⟨hw, hdo⟩
    · simp only [hw, Bool.false_eq_true, if_false]
      exact ih _ _ _ (nxt listed a w w k o undef hko h (Fr.refl _ _) hi) (by omega)
    · simp only [hw, if_true]
      refine .inl (hdo _ (fun v w' hv => ih _ _ _ (nxt listed a w w' k o v hko h hv.1 hv.2) (by omega)))
/-- The beginning: a region that draws its order. -/
theorem region_any {id : Nat} {I : Nat → Value → World → Prop} (hm : P.follows .mixedOrders = true) (he : Env N F a) (hS0 : S w.drew) (hok : okOps N F 0 ops.toList [] = true) (hI : ∀ k v w w', I k v w → New w w' → I k v w') (hS : ∀ w w', S w → New w w' → S w')
    (steps : StepsAll P .any ops Q N F S I 0 ops.toList) (fin : ∀ a w, Base N F S a w → (∀ k, k < ops.size → I k (a.eval (.tmp (dstOf ops k))) w) → Q .normal a w) : (Code.region id ops true).wp P Q a w :=
  wp_region_any hm (any_order hok hI hS steps fin ops.size _ a _ ⟨by simp, ⟨he, hS0⟩, fun k hk => by
    by_cases h : k < ops.size <;> simp [h] at hk⟩ (by
      refine Nat.le_trans (List.length_filter_le _ _) (by simp)))
end
end Go.Proofs.YtjcpdldaimebbaaDoor
namespace Go.Proofs.YtjcpdldaimebbaaDoor
open Go.RowKit

theorem i32_wraps (n : Int) (h0 : -2147483648 ≤ n) (h1 : n < 2147483648) : IntKind.i32.wrap n = n := by rw [IntKind.wrap_i32]; omega
theorem i64_wraps (n : Int) (h0 : -9223372036854775808 ≤ n) (h1 : n < 9223372036854775808) : IntKind.i64.wrap n = n := by rw [IntKind.wrap_i64]; omega
theorem fdivp (x : Int) (k : Nat) : x.fdiv (2 ^ k) = x / 2 ^ k := Int.fdiv_eq_ediv_of_nonneg _ (Int.pow_nonneg (by decide))
theorem mask21 (x : Int) (h0 : 0 ≤ x) (h1 : x < 18446744073709551616) : bits .and .u64 x 2097151 = x % 2097152 := and64 21 (by decide) x h0 h1
theorem fd0 (x : Int) (_ : 0 ≤ x) : x.fdiv (2 ^ 0) = x := by rw [fdivp x]; omega
theorem fd21 (x : Int) (_ : 0 ≤ x) : x.fdiv (2 ^ 21) = x / 2097152 := by rw [fdivp x]; rfl
theorem fd42 (x : Int) (_ : 0 ≤ x) : x.fdiv (2 ^ 42) = x / 2097152 / 2097152 := by rw [fdivp x]; omega
section
variable {ρ : Operand → Value} {o : Oper} {x y z u : Operand}
theorem rn_jaM0 {g off : Nat} {p : Value} (h : o.op = .indexAddr 52 x y) (hx : ρ x = .pointer (some ⟨g, off, none⟩)) (hy : ρ y = .int .i64 0) (hp : .pointer (some ⟨g, off + 0, none⟩) = p) (w : World) : (execOp ρ o).run Tryd.prog w = .ok (.value p) w := by
  subst hp
  unfold execOp
  simp only [h, hx, hy]
  kernel_rfl
theorem rn_jaM1 {g off : Nat} {p : Value} (h : o.op = .indexAddr 52 x y) (hx : ρ x = .pointer (some ⟨g, off, none⟩)) (hy : ρ y = .int .i64 1) (hp : .pointer (some ⟨g, off + 1, none⟩) = p) (w : World) : (execOp ρ o).run Tryd.prog w = .ok (.value p) w := by
  subst hp
  unfold execOp
  simp only [h, hx, hy]
  kernel_rfl
theorem rn_jaM2 {g off : Nat} {p : Value} (h : o.op = .indexAddr 52 x y) (hx : ρ x = .pointer (some ⟨g, off, none⟩)) (hy : ρ y = .int .i64 2) (hp : .pointer (some ⟨g, off + 2, none⟩) = p) (w : World) : (execOp ρ o).run Tryd.prog w = .ok (.value p) w := by
  subst hp
  unfold execOp
  simp only [h, hx, hy]
  kernel_rfl
theorem rn_bC023 {r d : Int} {p : Pn} (h : o.op = .build 60 #[(0, x), (2, y), (3, z)]) (hx : ρ x = .int .i32 r) (hy : ρ y = .int .i64 d) (hz : ρ z = p.v) (w : World) : (execOp ρ o).run Tryd.prog w = .ok (.value (Ce.v ⟨r, 0, 0, 0, d, p⟩)) w := by
  unfold execOp
  simp only [h, List.map_toArray, List.map_cons, List.map_nil, hx, hy, hz]
  kernel_rfl
theorem rn_bC0123 {r a b c d : Int} {p : Pn} (h : o.op = .build 60 #[(0, x), (1, y), (2, z), (3, u)]) (hx : ρ x = .int .i32 r) (hy : ρ y = .agg #[.int .i32 a, .int .i32 b, .int .i32 c]) (hz : ρ z = .int .i64 d) (hu : ρ u = p.v) (w : World) : (execOp ρ o).run Tryd.prog w = .ok (.value (Ce.v ⟨r, a, b, c, d, p⟩)) w := by
  unfold execOp
  simp only [h, List.map_toArray, List.map_cons, List.map_nil, hx, hy, hz, hu]
  kernel_rfl
end
theorem good_split (x : Wd) : goodB x = (decide (wordI (penW x.a) = x.a) && (cellB (cellI x) && decide (wordsI (cellI x) = x))) := by
  unfold goodB
  by_cases h : wordI (penW x.a) = x.a
  · simp [h]
  · have : wordsI (cellI x) ≠ x := fun e => h (congrArg Wd.a e)
    simp [h, this]
theorem good_wide (x : Wd) (h : 8388608 ≤ x.b) : goodB x = false := by
  unfold goodB
  cases e : cellB (cellI x) with
  | false => rfl
  | true =>
    have := (cell_in e).w1
    simp only [cellI] at this
    omega

end Go.Proofs.YtjcpdldaimebbaaDoor
namespace Go.Proofs.YtjcpdldaimebbaaDoor
open Go.RowKit

section
variable {ops : Array Oper} {Q : Exit → Act → World → Prop} {S : World → Prop} {md : Region.Mode} {fuel : Nat} {listed : Array Bool} {a : Act} {w : World} {N : Nat} {F : List (Nat × Value)}
/-- One number stored into a row of the call's own. -/
theorem hStOwn {n base g cnt cap off sz : Nat} {o : Oper} {e ty : TypeId} {xs : List Value} {v : Value} {x y : Operand} (he : Env N F a) (hown : w.ownsRow base e sz (.slice (some ⟨g, 0, none⟩) cnt cap) cnt xs) (hr : Region.ready md ops listed = [n]) (hoi : ops[n]? = some o) (hd : o.dst = none) (hw : Region.wanted o (yielded ops a.tmps) = true)
    (ho : o.op = .store ty x y) (hx : evO F x = some (.pointer (some ⟨g, off, none⟩))) (hy : evO F y = some v) (hv : v.cells = #[v]) (h1 : v.oneCell' = true) (hi : (Tryd.prog.info? ty).map (·.size) = some 1) (hoff : off < cnt * sz)
    (next : ∀ w' a', w'.ownsRow base e sz (.slice (some ⟨g, 0, none⟩) cnt cap) cnt (xs.set off v) → Fr (fun k => k = g) w w' → Env N F a' → S w' ∧ wpAnyH Tryd.prog md ops Q S fuel (listed.setIfInBounds n true) a' w') : wpAnyH Tryd.prog md ops Q S (fuel + 1) listed a w := by
  rcases hown.2 with ⟨h', _⟩ | ⟨g', cap', cur, h', hb, hg, hnc, hcm, hcs, htake⟩
  · simp at h'
  · simp only [Value.slice.injEq, Option.some.injEq, Addr.mk.injEq, and_true, true_and] at h'
    obtain ⟨rfl, rfl⟩ := h'
    have hle : cnt * sz ≤ cap * sz := Nat.mul_le_mul_right _ hnc
    have hfit : off + 1 ≤ cur.size := by omega
    refine allH hr hoi hw (fun K hK => storeV_does (news := #[v]) ho (he.op hx) (he.op hy) hv hg hi hfit (fun u hu => by
      have : u = v := by simpa using hu
      rw [this]; exact h1) (fun w' hB hf _ => ?_))
    have hl : (lay cur off #[v]).toList = cur.toList.set off v := by
      rw [List.set_eq_take_append_cons_drop, if_pos (by rw [Array.length_toList]; omega)]
      simp [lay]
    have hown' : w'.ownsRow base e sz (.slice (some ⟨g, 0, none⟩) cnt cap) cnt (xs.set off v) := by
      refine ⟨by rw [List.length_set]; exact hown.1, .inr ⟨g, cap, lay cur off #[v], rfl, hb, hB, hnc, hcm, ?_, ?_⟩⟩
      · rw [lay_size _ _ _ hfit, hcs]
      · rw [hl, List.take_set, htake]
    have := next w' (a.put none undef) hown' hf (he.put0 _)
    rw [hd]
    exact hK _ _ this.1 this.2
end
theorem own_get {w : World} {base g cnt cap sz : Nat} {e : TypeId} {xs : List Value} (h : w.ownsRow base e sz (.slice (some ⟨g, 0, none⟩) cnt cap) cnt xs) : (∃ cur, Blk w g e cur) ∧ base ≤ g := by
  rcases h.2 with ⟨h', _⟩ | ⟨g', cap', cur, h', hb, hg, _⟩
  · simp at h'
  · simp only [Value.slice.injEq, Option.some.injEq, Addr.mk.injEq, and_true, true_and] at h'
    obtain ⟨rfl, rfl⟩ := h'
    exact ⟨⟨cur, hg⟩, hb⟩
theorem addR_len (l : List Rn) (r : Rn) : (addR l r).length ≤ l.length + 1 := by
  rcases snoc_cases l with rfl | ⟨m, q, rfl⟩
  · exact Nat.le_refl _
  · rw [addR_snoc]
    split <;> simp

end Go.Proofs.YtjcpdldaimebbaaDoor
namespace Go.Proofs.YtjcpdldaimebbaaDoor
open Go.RowKit

section
variable {α : Type} {R : Rec α}
/-- append of records onto a row of the call's own, whatever the source is. -/
theorem run_appendO (w : World) (base : Nat) (ty : TypeId) (v : Value) (n : Nat) (l : List α) (hown : w.ownsRow base R.ty R.sz v n (flatG R l))
    (b : Nat) (A : Option Addr) (m c : Nat) (news : List α) (hr : RdG R w b A m news) (hnm : n + m ≤ 100000000) (hbase : base ≤ w.heap.size) :
    ∃ v' w', (Builtin.append_ #[R.sl, R.sl] ty #[v, .slice A m c]).run Tryd.prog w = .ok v' w' ∧ w'.ownsRow base R.ty R.sz v' (n + m) (flatG R (l ++ news)) ∧ w.grownBy w' v.ownBlock ∧ (v'.ownBlock = v.ownBlock ∨ v'.ownBlock = some w.heap.size) := by
  obtain ⟨i, hi, hz, hsize, hby⟩ := info_parts R.info
  have ht := R.und
  have hmb : (n + m) * R.by_ ≤ 140737488355328 := Nat.le_trans (Nat.mul_le_mul hnm R.small) (by decide)
  rcases Nat.eq_zero_or_pos m with rfl | hm
  · have hn : news = [] := List.eq_nil_of_length_eq_zero hr.1
    subst hn
    rcases A with _ | ad
    · refine ⟨v, w, ?_, by simpa using hown, ⟨rfl, rfl, rfl, Nat.le_refl _, fun _ _ _ => rfl⟩, .inl rfl⟩
      rcases hown.2 with ⟨rfl, rfl⟩ | ⟨g, cap, cur, rfl, _, _, hnc, _⟩
      · simp [Builtin.append_, run_underlying ht, sizeOf, typeInfo, hi, Builtin.lenOf, Builtin.firstCells]
      · simp [Builtin.append_, run_underlying ht, sizeOf, typeInfo, hi, Builtin.lenOf, Builtin.firstCells, hnc, storeCells]
    · obtain ⟨v', w', h2, h3, h4, _, h5⟩ := run_append_own_at (P := Tryd.prog) w base R.sl ty R.ty i _ R.sz R.by_ ht hi hz hsize hby R.zc R.pos v n (flatG R l) hown ad 0 c [] (by simp) (by simp) (by simp) (by unfold maxLen; omega) (by simpa using hmb) hbase
      exact ⟨v', w', h2, by simpa using h3, h4, h5⟩
  · obtain ⟨o, rfl, _, hc⟩ := hr.2 hm
    obtain ⟨v', w', h2, h3, h4, _, h5⟩ := run_append_own_at (P := Tryd.prog) w base R.sl ty R.ty i _ R.sz R.by_ ht hi hz hsize hby R.zc R.pos v n (flatG R l) hown ⟨b, o, none⟩ m c (flatG R news) (by rw [flatG_len, hr.1]) (fun j u hu => by
      have hj : j < m * R.sz := by
        have := (List.getElem?_eq_some_iff.1 hu).1
        rw [flatG_len, hr.1] at this
        exact this
      rw [addr_add, hc j hj, hu]) (flatG_one R news) (by unfold maxLen; omega) hmb hbase
    exact ⟨v', w', h2, by rw [flatG_append]; exact h3, h4, h5⟩
variable {ops : Array Oper} {Q : Exit → Act → World → Prop} {a : Act} {w : World} {rest : List Oper} {o : Oper} {N k : Nat} {F : List (Nat × Value)} {l : List α} {n b : Nat} {A : Option Addr}
theorem lAppO {s x : Operand} {base m c : Nat} {v : Value} {news : List α} (hown : w.ownsRow base R.ty R.sz v n (flatG R l)) (hr : RdG R w b A m news) (he : Env N F a) (hd : o.dst = some k) (hk : Nat.blt k N = true) (hw : Region.wanted o (yielded ops a.tmps) = true)
    (ho : o.op = .call { callee := .builtin .append, args := #[s, x], argTypes := #[R.sl, R.sl] }) (hs : evO F s = some v)
    (hx : evO F x = some (.slice A m c)) (hnm : n + m ≤ 100000000) (hbase : base ≤ w.heap.size)
    (next : ∀ v' w' a', w'.ownsRow base R.ty R.sz v' (n + m) (flatG R (l ++ news)) → w.grownBy w' v.ownBlock → (v'.ownBlock = v.ownBlock ∨ v'.ownBlock = some w.heap.size) → Env N ((k, v') :: F) a' → wpList Tryd.prog ops Q rest a' w') : wpList Tryd.prog ops Q (o :: rest) a w := by
  obtain ⟨v', w', hrun, h2, h3, h4⟩ := run_appendO w base o.type v n l hown b A m c news hr hnm hbase
  refine wpList_step fun K hK => ?_
  rw [if_pos hw]
  unfold Oper.wp execOp
  simp only [ho, resolve, invoke, builtin, Sem.run_bind, Sem.run_pure, Result.andThen_ok, List.map_toArray, List.map_cons, List.map_nil, he.op hs, he.op hx, hrun]
  exact hK _ _ (by rw [hd]; exact next _ _ _ h2 h3 h4 (he.put hk v'))
/-- A slice made empty, for so many. -/
theorem lMk {x : Operand} {base c : Nat} (he : Env N F a) (hd : o.dst = some k) (hk : Nat.blt k N = true) (hw : Region.wanted o (yielded ops a.tmps) = true)
    (ho : o.op = .makeSlice R.sl (.const (.int .i64 0)) x) (hx : evO F x = some (.int .i64 c)) (hc : c ≤ 100000000) (hbase : base ≤ w.heap.size)
    (next : ∀ w' a', w'.ownsRow base R.ty R.sz (.slice (some ⟨w.heap.size, 0, none⟩) 0 c) 0 (flatG R []) → w.grownBy w' none → Env N ((k, .slice (some ⟨w.heap.size, 0, none⟩) 0 c) :: F) a' → wpList Tryd.prog ops Q rest a' w') : wpList Tryd.prog ops Q (o :: rest) a w := by
  obtain ⟨i, hi, hz, hsize, hby⟩ := info_parts R.info
  have hmb : i.bytes * c ≤ 281474976710656 := by
    rw [hby]
    exact Nat.le_trans (Nat.mul_le_mul R.small hc) (by decide)
  obtain ⟨w', hrun, h2, h3⟩ := run_make_own (P := Tryd.prog) w base R.sl R.ty i _ R.sz R.und hi hz hsize .i64 .i64 c hmb (by unfold maxLen; omega) hbase
  refine wpList_step fun K hK => ?_
  rw [if_pos hw]
  have ha : a.eval (.const (.int .i64 0)) = .int .i64 0 := rfl
  unfold Oper.wp execOp
  simp only [ho, ha, he.op hx, Sem.run_bind, hrun, Result.andThen_ok, Sem.run_pure]
  exact hK _ _ (by rw [hd]; exact next _ _ h2 h3 (he.put hk _))
end
theorem Hp.own {w0 w w' : World} {H : List Bk} {S : Nat → Prop} (h : Hp w0 H w) (hf : Fr S w w') (hS : ∀ k, S k → w0.heap.size ≤ k) (hne : ∀ b ∈ H, ¬ S b.p) : Hp w0 H w' :=
  ⟨Fr.trans h.new hf (fun i hi hs => by have := hS i hs; omega), h.nd, fun b hb => ⟨(h.bl b hb).1, (h.bl b hb).2.fr hf (hne b hb)⟩⟩
/-- Cells as records. -/
def rC : Rec Ce where
  sz := 16
  ty := 60
  sl := 22
  ls := Ce.ls
  z := zeroCe.v
  by_ := 64
  len _ := rfl
  pos := by decide
  one x u hu := one_cs x u (by simpa [Ce.ls, Ce.cs] using hu)
  info := by kernel_rfl
  zc := rfl
  small := by decide
  und := Tryd.underlying22
  row := ⟨_, undC, rfl⟩
theorem rdc_of {w : World} {b n : Nat} {A : Option Addr} {l : List Ce} (h : RdG rC w b A n l) : RdC w b A n l := h
theorem of_rdc {w : World} {b n : Nat} {A : Option Addr} {l : List Ce} (h : RdC w b A n l) : RdG rC w b A n l := h
section
variable {ρ : Operand → Value} {o : Oper} {x : Operand}
end
end Go.Proofs.YtjcpdldaimebbaaDoor
namespace Go.Proofs.YtjcpdldaimebbaaDoor
open Go.RowKit

def prevW (l : List Rn) (k : Nat) : Option Wd := if k = 0 then none else (l[k - 1]?).map (·.w)
theorem prevW_succ {l : List Rn} {k : Nat} {c : Rn} (h : l[k]? = some c) : prevW l (k + 1) = some c.w := by simp [prevW, h]
theorem step_lo {n : Int} {p : Option Wd} {r : Rn} (h : r.n < 1) : stepR n p r = none := by unfold stepR; rw [if_pos (.inl h)]
theorem step_hi {n : Int} {p : Option Wd} {r : Rn} (h : 100000 - n < r.n) : stepR n p r = none := by unfold stepR; rw [if_pos (.inr (.inl h))]
theorem step_same {n : Int} {p : Option Wd} {r : Rn} (h : p = some r.w) : stepR n p r = none := by unfold stepR; rw [if_pos (.inr (.inr (.inl h)))]
theorem step_bad {n : Int} {p : Option Wd} {r : Rn} (h : goodB r.w = false) : stepR n p r = none := by unfold stepR; rw [if_pos (.inr (.inr (.inr h)))]
theorem drop_some {l : List Rn} {k : Nat} {c : Rn} (h : l[k]? = some c) : l.drop k = c :: l.drop (k + 1) := by
  obtain ⟨hk, e⟩ := List.getElem?_eq_some_iff.1 h
  rw [List.drop_eq_getElem_cons hk, e]
theorem cnt_stop {l : List Rn} {k : Nat} {c : Rn} {m : Int} (h : cntR 0 none l = cntR m (prevW l k) (l.drop k)) (hc : l[k]? = some c) (hs : stepR m (prevW l k) c = none) : goodR l = false ∧ countR l = 0 := by
  rw [drop_some hc, cntR_cons_none hs] at h
  exact ⟨by rw [goodR, h]; rfl, by rw [countR, h]; rfl⟩
theorem cnt_go {l : List Rn} {k : Nat} {c : Rn} {m j : Int} (h : cntR 0 none l = cntR m (prevW l k) (l.drop k)) (hc : l[k]? = some c) (hs : stepR m (prevW l k) c = some j) : cntR 0 none l = cntR j (prevW l (k + 1)) (l.drop (k + 1)) := by
  rw [h, drop_some hc, cntR_cons_some hs, prevW_succ hc]

end Go.Proofs.YtjcpdldaimebbaaDoor
namespace Go.Proofs.YtjcpdldaimebbaaDoor
open Go.RowKit

theorem addR_le {X : List Rn} {r : Rn} {M d : Int} (hX : ∀ q ∈ X, 1 ≤ q.n ∧ q.n ≤ M) (h1 : 1 ≤ r.n) (hd : r.n ≤ d) (hM : 0 ≤ M) : ∀ q ∈ addR X r, 1 ≤ q.n ∧ q.n ≤ M + d := by
  rcases snoc_cases X with rfl | ⟨m, x, rfl⟩
  · intro q hq
    rw [addR_nil, List.mem_singleton] at hq
    subst hq
    omega
  · have hx := hX x (by simp)
    intro q hq
    rw [addR_snoc] at hq
    split at hq
    · simp only [List.mem_append, List.mem_singleton] at hq
      rcases hq with hq | rfl
      · have := hX q (by simp [hq]); omega
      · simp only; omega
    · simp only [List.mem_append, List.mem_singleton] at hq
      rcases hq with (hq | rfl) | rfl
      · have := hX q (by simp [hq]); omega
      · omega
      · omega
theorem last_mem {X : List Rn} {q : Rn} (h : X.getLast? = some q) : q ∈ X := List.mem_of_getLast? h
theorem cnt_all {l : List Rn} : ∀ {n m : Int} {p : Option Wd}, 0 ≤ n → cntR n p l = some m → ∀ r ∈ l, 1 ≤ r.n ∧ r.n ≤ 100000 ∧ goodB r.w = true := by
  induction l with
  | nil => intro n m p _ _ r hr; simp at hr
  | cons c l ih =>
    intro n m p hn h r hr
    obtain ⟨k, h1, h2⟩ := cntR_cons h
    obtain ⟨g1, g2, g3, -, g5⟩ := stepR_some h1
    rcases List.mem_cons.1 hr with rfl | hr
    · exact ⟨g1, by omega, g5⟩
    · exact ih (by omega) h2 r hr
theorem good_all {l : List Rn} (h : goodR l = true) : ∀ r ∈ l, 1 ≤ r.n ∧ r.n ≤ 100000 ∧ goodB r.w = true := by
  obtain ⟨m, hm⟩ := Option.isSome_iff_exists.1 h
  exact cnt_all (by omega) hm
theorem addR_pos (X : List Rn) (r : Rn) : 0 < (addR X r).length := by
  rcases snoc_cases X with rfl | ⟨m, x, rfl⟩
  · exact Nat.one_pos
  · rw [addR_snoc]; split <;> simp
theorem addR_lens (X : List Rn) (r : Rn) : X.length ≤ (addR X r).length := by
  rcases snoc_cases X with rfl | ⟨m, x, rfl⟩
  · exact Nat.zero_le _
  · rw [addR_snoc]; split <;> simp
theorem pack_le (l : List Ce) : (packL l).length ≤ l.length ∧ ∀ q ∈ packL l, 1 ≤ q.n ∧ q.n ≤ l.length := by
  have key : ∀ k, k ≤ l.length → (packL (l.take k)).length ≤ k ∧ ∀ q ∈ packL (l.take k), 1 ≤ q.n ∧ q.n ≤ k := by
    intro k
    induction k with
    | zero => intro _; exact ⟨by simp [packL], fun q hq => by simp [packL] at hq⟩
    | succ k ih =>
      intro hk
      obtain ⟨h1, h2⟩ := ih (by omega)
      rw [take_snocC l k (by omega), pack_snoc]
      refine ⟨Nat.le_trans (addR_len _ _) (by omega), fun q hq => ?_⟩
      have := addR_le (d := 1) h2 (by simp [one]) (by simp [one]) (by omega) q hq
      omega
  have := key l.length (Nat.le_refl _)
  rwa [List.take_length] at this
theorem packE_bad {l : List Ce} {c : Ce} (hn : l.length ≤ 100000) (hc : c ∈ l) (hv : cellB c = false) : packE l = 2 := by
  rw [packE, if_neg (by omega), if_neg]
  intro h
  rw [List.all_eq_true.1 h c hc] at hv
  cases hv
theorem packO_bad {l : List Ce} (h : packE l ≠ 0) : packO l = [] := by rw [packO, if_neg h]
theorem pack_ne {l : List Ce} (h : l ≠ []) : 0 < (packL l).length := by
  rcases List.eq_nil_or_concat l with h' | ⟨m, c, h'⟩
  · exact absurd h' h
  · rw [h', List.concat_eq_append, pack_snoc]; exact addR_pos _ _
def joinE (a b : List Rn) : Int := if goodR a = false ∨ goodR b = false then 12 else if 100000 < countR a + countR b then 5 else 0
def joinO (a b : List Rn) : List Rn := if joinE a b = 0 then b.foldl addR a else []
theorem fold_snoc (X b : List Rn) (r : Rn) : (b ++ [r]).foldl addR X = addR (b.foldl addR X) r := by simp [List.foldl_append]
theorem take_snocR (l : List Rn) (k : Nat) (r : Rn) (h : l[k]? = some r) : l.take (k + 1) = l.take k ++ [r] := by rw [List.take_add_one, h]; rfl
theorem fold_len (b : List Rn) : ∀ X : List Rn, (b.foldl addR X).length ≤ X.length + b.length := by
  induction b with
  | nil => intro X; simp
  | cons r b ih => intro X; rw [List.foldl_cons, List.length_cons]; have := ih (addR X r); have := addR_len X r; omega

end Go.Proofs.YtjcpdldaimebbaaDoor
namespace Go.Proofs.YtjcpdldaimebbaaDoor
open Go.RowKit

theorem lastW_pack (m : List Ce) (d : Ce) : lastW (packL (m ++ [d])) = some (wordsI d) := by
  rw [pack_snoc]
  rcases snoc_cases (packL m) with h | ⟨x, q, h⟩
  · rw [h]; rfl
  · rw [h, addR_snoc]
    split
    · rename_i e; rw [lastW_snoc]; exact congrArg some e
    · rw [lastW_snoc]; rfl
theorem packE_all {l : List Ce} (hn : l.length ≤ 100000) (hv : ∀ c ∈ l, cellB c = true) : packE l = 0 := packE_ok hn hv
/-- A run of the same cell behind others. -/
theorem take_rep {l : List Ce} {i k : Nat} {c : Ce} (hik : i ≤ k) (hk : k ≤ l.length) (h : ∀ j, i ≤ j → j < k → l[j]? = some c) : l.take k = l.take i ++ List.replicate (k - i) c := by
  apply List.ext_getElem?
  intro j
  rw [List.getElem?_take, List.getElem?_append]
  simp only [List.length_take, Nat.min_eq_left (Nat.le_trans hik hk)]
  by_cases h1 : j < i
  · rw [if_pos (by omega), if_pos h1, List.getElem?_take, if_pos h1]
  · rw [if_neg h1, List.getElem?_replicate]
    by_cases h2 : j < k
    · rw [if_pos h2, if_pos (by omega), h j (by omega) h2]
    · rw [if_neg h2, if_neg (by omega)]
theorem pack_rep {l : List Ce} {i k : Nat} {c : Ce} (hik : i < k) (hk : k ≤ l.length) (h : ∀ j, i ≤ j → j < k → l[j]? = some c) (hl : lastW (packL (l.take i)) ≠ some (wordsI c)) : packL (l.take k) = packL (l.take i) ++ [⟨((k - i : Nat) : Int), wordsI c⟩] := by
  obtain ⟨j, hj⟩ : ∃ j, k - i = j + 1 := ⟨k - i - 1, by omega⟩
  rw [take_rep (Nat.le_of_lt hik) hk h, hj]
  have e : packL (l.take i ++ List.replicate (j + 1) c) = (List.replicate (j + 1) (one c)).foldl addR (packL (l.take i)) := by
    simp only [packL, List.map_append, List.map_replicate, List.foldl_append]
  rw [e, show one c = ⟨1, wordsI c⟩ from rfl, fold_rep, addR_ne (r := ⟨(j : Int) + 1, wordsI c⟩) hl]
  rfl
theorem last_ne {l : List Ce} {i : Nat} {c : Ce} (hc : l[i]? = some c) (hv : ∀ d ∈ l.take i, cellB d = true) (hok : ∀ d ∈ l, d.p.Ok) (hvc : cellB c = true) (hd : i = 0 ∨ ∃ d, l[i - 1]? = some d ∧ d ≠ c) : lastW (packL (l.take i)) ≠ some (wordsI c) := by
  rcases hd with rfl | ⟨d, hd, hne⟩
  · simp [packL, lastW]
  · have hi : i ≠ 0 := fun e => by subst e; rw [hc] at hd; simp only [Option.some.injEq] at hd; exact hne hd.symm
    obtain ⟨j, rfl⟩ : ∃ j, i = j + 1 := ⟨i - 1, by omega⟩
    rw [Nat.add_sub_cancel] at hd
    have ht : l.take (j + 1) = l.take j ++ [d] := by rw [List.take_add_one, hd]; rfl
    have hm : d ∈ l := List.mem_of_getElem? hd
    rw [ht, lastW_pack]
    intro e
    simp only [Option.some.injEq] at e
    exact hne (words_inj (hv d (by rw [ht]; simp)) hvc (hok d hm) (hok c (List.mem_of_getElem? hc)) e)

end Go.Proofs.YtjcpdldaimebbaaDoor
namespace Go.Proofs.YtjcpdldaimebbaaDoor
open Go.RowKit

abbrev OwnC (w : World) (base : Nat) (v : Value) (n : Nat) (l : List Ce) : Prop := w.ownsRow base 60 16 v n (flatG rC l)
theorem cells_take {l : List Rn} {k : Nat} {c : Rn} (h : l[k]? = some c) : cellsR (l.take (k + 1)) = cellsR (l.take k) ++ List.replicate c.n.toNat (cellI c.w) := by
  rw [take_snocR l k c h, cellsR_append, cellsR_cons]
  simp [cellsR]
theorem rep_succ (j : Nat) (c : Ce) : List.replicate (j + 1) c = List.replicate j c ++ [c] := by rw [List.replicate_succ']
theorem cells_sub {l : List Rn} {k : Nat} : (cellsR (l.take k)).length ≤ (cellsR l).length := by
  have : cellsR l = cellsR (l.take k) ++ cellsR (l.drop k) := by rw [← cellsR_append, List.take_append_drop]
  rw [this, List.length_append]
  omega
theorem Hp.root {w0 w1 w : World} {H : List Bk} (h : Hp w1 H w) (hn : New w0 w1) : Hp w0 H w := ⟨New.trans hn h.new, h.nd, fun b hb => ⟨Nat.le_trans hn.size (h.bl b hb).1, (h.bl b hb).2⟩⟩
theorem own_lt {w : World} {base sz n : Nat} {e : TypeId} {v : Value} {xs : List Value} (h : w.ownsRow base e sz v n xs) : ∀ k, v.ownBlock = some k → k < w.heap.size := by
  intro k hk
  rcases h.2 with ⟨rfl, _⟩ | ⟨g, cap, cur, rfl, _, hg, _⟩
  · simp [Value.ownBlock] at hk
  · have : g = k := by simpa [Value.ownBlock] using hk
    subst this
    exact Blk.lt hg

end Go.Proofs.YtjcpdldaimebbaaDoor
namespace Go.Proofs.YtjcpdldaimebbaaDoor
open Go.RowKit

inductive Kd where
  | val (v : Value)
  | runs (q : Nat) (l : List Rn)
  | cells (q : Nat) (l : List Ce)
theorem Env.add {N : Nat} {F : List (Nat × Value)} {a : Act} (he : Env N F a) {k : Nat} {v : Value} (h : a.eval (.tmp k) = v) : Env N ((k, v) :: F) a := by
  refine ⟨he.sz, he.df, fun j u hj => ?_⟩
  unfold lk at hj
  cases hb : Nat.beq k j with
  | true =>
    rw [hb] at hj
    simp only [cond_true, Option.some.injEq] at hj
    obtain rfl := Nat.eq_of_beq_eq_true hb
    rw [h, hj]
  | false =>
    rw [hb] at hj
    exact he.ev j u hj
section
variable {P : Program} {ops : Array Oper} {Q : Exit → Act → World → Prop} {S : World → Prop} {md : Region.Mode} {N k : Nat} {F : List (Nat × Value)} {I : Nat → Value → World → Prop} {o : Oper} {l : List Oper}
theorem StepsAll.cons (h : StepOk P md ops Q N F S I k o) (t : StepsAll P md ops Q N F S I (k + 1) l) : StepsAll P md ops Q N F S I k (o :: l) := ⟨h, t⟩
theorem StepsAll.nil : StepsAll P md ops Q N F S I k [] := trivial
end
/-- Cells of runs, words, and the errors, whatever the arguments. -/
def wordsO (c : Ce) : Wd := if cellB c then wordsI c else zeroW
def wordsE (c : Ce) : Int := if cellB c then 0 else 2
def cellO (x : Wd) : Ce := if goodB x then cellI x else zeroCe
def cellE (x : Wd) : Int := if goodB x then 0 else 12
def cellsE (l : List Rn) : Int := if goodR l then 0 else 12
end Go.Proofs.YtjcpdldaimebbaaDoor
