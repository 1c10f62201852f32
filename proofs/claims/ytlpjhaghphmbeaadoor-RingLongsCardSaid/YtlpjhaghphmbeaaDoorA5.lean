/-
  The steps of a region that draws its order, taken one after the other by hand (no number of the translation stands here).
  A whole cell stored at once, read at once, returned.
  Regions that draw their order, where some operations make memory in whatever order: the ways meet again.
  Walks by hand over a frame and a memory that are variables: what a frame holds (Env), the blocks of the call's own (Hp), and a law for each kind of step.
  What single operations yield, for walks by hand over cells; append onto a row of cells.
-/
import Derived.Test.YtlpjhaghphmbeaaDoorBase
import Derived.Deep.RegionHeld
import Derived.Deep.CutRange
import Derived.OrdersHeld
import Derived.BigCall
import Derived.Conc.MuLone
import Derived.Test.YtlpjhaghphmbeaaDoorA2
import Derived.OpenShut
import Derived.Laws.Cover4
import Derived.Laws.CopyRow
import Derived.Laws.OwnMore
import Derived.Laws.ResultCell
import Derived.Deep.MidRow
namespace Go.Proofs.YtlpjhaghphmbeaaDoor
open Go.RowKit

section
variable {P : Program} {md : Region.Mode} {ops : Array Oper} {Q : Exit → Act → World → Prop} {a : Act} {w : World} {S : World → Prop} {fuel : Nat} {listed : Array Bool}

theorem ev_same {k : Nat} (h : k < a.tmps.size) (v : Value) : (a.put (some k) v).eval (.tmp k) = v := by
  simp [Act.put, Act.eval, Array.getD, h]
theorem ev_ne {k j : Nat} (h : k ≠ j) (v : Value) : (a.put (some j) v).eval (.tmp k) = a.eval (.tmp k) := by
  simp only [Act.put, Act.eval, Array.getD_eq_getD_getElem?]
  rw [Array.getElem?_setIfInBounds_ne (Ne.symm h)]
theorem sz_put (j : Nat) (v : Value) : (a.put (some j) v).tmps.size = a.tmps.size := by
  simp [Act.put]
theorem wanted_plain {o : Oper} (h : o.guard = none) (y : Nat → Option Bool) : Region.wanted o y = true := by simp [Region.wanted, h]
theorem yielded_bool {j k : Nat} {b : Bool} {oj : Oper} (hj : ops[j]? = some oj) (hd : oj.dst = some k) (hk : k < a.tmps.size) (hv : a.eval (.tmp k) = .bool b) : yielded ops a.tmps j = some b := by
  have h1 : a.tmps[k]? = some (.bool b) := by
    rw [Array.getElem?_eq_getElem hk]
    simp only [Act.eval, Array.getD, hk, dif_pos] at hv
    exact congrArg some hv
  simp [yielded, hj, hd, h1]
theorem wanted_guard {o : Oper} {j k : Nat} {b : Bool} {oj : Oper} (h : o.guard = some (j, b)) (hj : ops[j]? = some oj) (hd : oj.dst = some k) (hk : k < a.tmps.size) (hv : a.eval (.tmp k) = .bool b) : Region.wanted o (yielded ops a.tmps) = true := by
  simp [Region.wanted, h, yielded_bool hj hd hk hv]
theorem unwanted_guard {o : Oper} {j k : Nat} {b c : Bool} {oj : Oper} (h : o.guard = some (j, b)) (hj : ops[j]? = some oj) (hd : oj.dst = some k) (hk : k < a.tmps.size) (hv : a.eval (.tmp k) = .bool c) (hbc : c ≠ b) : Region.wanted o (yielded ops a.tmps) = false := by
  simp [Region.wanted, h, yielded_bool hj hd hk hv, hbc]

theorem wp_callF {o : Oper} {f : FuncId} {xs : Array Operand} {ats : Array TypeId} {fn : Func} {c : Code} {K : Act → World → Prop} (hf : P.funcs[f]? = some fn) (hname : (fn.name == "runtime.NumGoroutine") = false) (hb : fn.body = some c)
    (ho : o.op = .call { callee := .value (.func f), args := xs, argTypes := ats }) {vs : Array Value} (hv : xs.map a.eval = vs)
    (hc : Calls P f vs w fun e w' => ∃ v, e = .returned v ∧ K (a.put o.dst v) w') : Oper.wp P o a w K Q := by
  obtain ⟨dst, op, ty, pos, after, guard⟩ := o
  simp only at ho
  subst ho
  unfold Oper.wp
  rw [execOp_call_go, MuLone.run_callFunc_enter hf hname hb, hv]
  have e : (#[] ++ vs ++ #[] : Array Value) = vs := by simp
  rw [e]
  refine Calls.mono hc ?_
  rintro e w' ⟨v, rfl, h⟩
  exact h

theorem allH {i : Nat} {o : Oper} (hr : Region.ready md ops listed = [i]) (ho : ops[i]? = some o) (hw : Region.wanted o (yielded ops a.tmps) = true)
    (h : ∀ K : Act → World → Prop, (∀ a' w', S w' → wpAnyH P md ops Q S fuel (listed.setIfInBounds i true) a' w' → K a' w') → Oper.wp P o a w K Q) : wpAnyH P md ops Q S (fuel + 1) listed a w :=
  wpAnyH_all hr (by simp) (fun j hj => by
    obtain rfl : j = i := by simpa using hj
    exact wpOp_step ho (fun K hK => by rw [if_pos hw]; exact h K (fun a w h1 h2 => hK a w ⟨h1, h2⟩)))
end

end Go.Proofs.YtlpjhaghphmbeaaDoor
namespace Go.Proofs.YtlpjhaghphmbeaaDoor
open Go.RowKit

theorem infoC16 : (Tryd.prog.info? 95).map (·.size) = some 16 := by kernel_rfl
theorem infoP11 : (Tryd.prog.info? 93).map (·.size) = some 11 := by kernel_rfl

/-- The row xs with ys laid from place i on. -/
def lay (xs : Array Value) (i : Nat) (ys : Array Value) : Array Value := (xs.toList.take i ++ ys.toList ++ xs.toList.drop (i + ys.size)).toArray
theorem lay_size (xs : Array Value) (i : Nat) (ys : Array Value) (h : i + ys.size ≤ xs.size) : (lay xs i ys).size = xs.size := by
  simp [lay]; omega
theorem fr_setRow (w : World) (g : Nat) (cs : Array Value) : Fr (fun k => k = g) w (w.setRow g cs) :=
  ⟨rfl, rfl, rfl, by simp, fun k _ hn => setRow_other w g k cs hn⟩

theorem one_cs (c : Ce) : ∀ u ∈ c.cs.toList, u.oneCell' = true := by
  intro u hu
  simp only [List.mem_cons, List.not_mem_nil, or_false] at hu
  rcases hu with h | h | h | h | h | h | h | h | h | h | h | h | h | h | h | h <;> subst h <;> rfl

end Go.Proofs.YtlpjhaghphmbeaaDoor
namespace Go.Proofs.YtlpjhaghphmbeaaDoor
open Go.RowKit

section
variable {P : Program} {md : Region.Mode} {ops : Array Oper} {Q : Exit → Act → World → Prop} {a : Act} {w : World} {S : World → Prop} {fuel : Nat} {listed : Array Bool}

theorem wp_valw {o : Oper} {v : Value} {w' : World} {K : Act → World → Prop} (h : (execOp a.eval o).run P w = .ok (.value v) w') (hk : K (a.put o.dst v) w') : Oper.wp P o a w K Q := by
  unfold Oper.wp
  rw [h]
  exact hk
/-- What an operation does in a frame and a world, whatever follows. -/
def Does (P : Program) (Q : Exit → Act → World → Prop) (o : Oper) (a : Act) (w : World) (post : Value → World → Prop) : Prop := ∀ K : Act → World → Prop, (∀ v w', post v w' → K (a.put o.dst v) w') → Oper.wp P o a w K Q
theorem Does.val {o : Oper} {v : Value} {w' : World} {post : Value → World → Prop} (h : (execOp a.eval o).run P w = .ok (.value v) w') (hp : post v w') : Does P Q o a w post := fun _ hK => wp_valw h (hK _ _ hp)
end

end Go.Proofs.YtlpjhaghphmbeaaDoor
namespace Go.Proofs.YtlpjhaghphmbeaaDoor
open Go.RowKit

/-- What is known of the slots: the first entry of a number counts. -/
def lk : List (Nat × Value) → Nat → Option Value
  | [], _ => none
  | (j, v) :: F, k => cond (Nat.beq j k) (some v) (lk F k)
def evO (F : List (Nat × Value)) : Operand → Option Value
  | .tmp k => lk F k
  | .const v => some v
  | _ => none
def evL (F : List (Nat × Value)) : List Operand → Option (List Value)
  | [] => some []
  | x :: l => match evO F x, evL F l with
    | some v, some vl => some (v :: vl)
    | _, _ => none
def allIn (F : List (Nat × Value)) : List (Nat × Value) → Prop
  | [] => True
  | p :: G => lk F p.1 = some p.2 ∧ allIn F G
structure EnvD (DF : List Deferred) (N : Nat) (F : List (Nat × Value)) (a : Act) : Prop where
  sz : a.tmps.size = N
  df : a.defers = DF
  ev : ∀ k v, lk F k = some v → a.eval (.tmp k) = v
/-- The same, and no deferred calls. -/
abbrev Env (N : Nat) (F : List (Nat × Value)) (a : Act) : Prop := EnvD [] N F a

section
variable {DF : List Deferred} {N : Nat} {F : List (Nat × Value)} {a : Act}
theorem EnvD.op (he : EnvD DF N F a) {x : Operand} {v : Value} (h : evO F x = some v) : a.eval x = v := by
  cases x with
  | tmp k => exact he.ev k v h
  | const u => simp only [evO, Option.some.injEq] at h; exact h
  | _ => simp [evO] at h
theorem EnvD.args (he : EnvD DF N F a) {l : List Operand} {vl : List Value} (h : evL F l = some vl) : l.toArray.map a.eval = vl.toArray := by
  induction l generalizing vl with
  | nil => simp only [evL, Option.some.injEq] at h; subst h; simp
  | cons x l ih =>
    simp only [evL] at h
    split at h
    · rename_i v vs h1 h2
      simp only [Option.some.injEq] at h
      subst h
      have e := ih h2
      simp only [List.map_toArray, List.map_cons, he.op h1] at e ⊢
      rw [Array.mk.injEq] at e
      rw [e]
    · cases h
theorem EnvD.put (he : EnvD DF N F a) {k : Nat} (hk : Nat.blt k N = true) (v : Value) : EnvD DF N ((k, v) :: F) (a.put (some k) v) := by
  have hk : k < N := by simpa [Nat.blt_eq] using hk
  refine ⟨by rw [sz_put]; exact he.sz, he.df, fun j u h => ?_⟩
  unfold lk at h
  cases hb : Nat.beq k j with
  | true =>
    rw [hb] at h
    simp only [cond_true, Option.some.injEq] at h
    obtain rfl := Nat.eq_of_beq_eq_true hb
    rw [ev_same (by rw [he.sz]; exact hk), h]
  | false =>
    rw [hb] at h
    simp only [cond_false] at h
    have hne : j ≠ k := fun e => by subst e; rw [Nat.beq_refl] at hb; cases hb
    rw [ev_ne hne]
    exact he.ev j u h
theorem EnvD.put0 (he : EnvD DF N F a) (v : Value) : EnvD DF N F (a.put none v) := ⟨he.sz, he.df, he.ev⟩
theorem EnvD.mem (he : EnvD DF N F a) {G : List (Nat × Value)} (h : allIn F G) : EnvD DF N G a := by
  refine ⟨he.sz, he.df, ?_⟩
  induction G with
  | nil => intro k v h; simp [lk] at h
  | cons p G ih =>
    intro k v hk
    obtain ⟨j, u⟩ := p
    obtain ⟨h1, h2⟩ := h
    unfold lk at hk
    cases hb : Nat.beq j k with
    | true =>
      rw [hb] at hk
      simp only [cond_true, Option.some.injEq] at hk
      obtain rfl := Nat.eq_of_beq_eq_true hb
      subst hk
      exact he.ev _ _ h1
    | false =>
      rw [hb] at hk
      exact ih h2 k v hk
theorem EnvD.want (he : EnvD DF N F a) {ops : Array Oper} {o oj : Oper} {j k : Nat} {b : Bool} (h : o.guard = some (j, b)) (hj : ops[j]? = some oj) (hd : oj.dst = some k) (hk : Nat.blt k N = true) (hv : lk F k = some (.bool b)) : Region.wanted o (yielded ops a.tmps) = true :=
  wanted_guard h hj hd (by rw [he.sz]; simpa [Nat.blt_eq] using hk) (he.ev _ _ hv)
theorem EnvD.wantNot (he : EnvD DF N F a) {ops : Array Oper} {o oj : Oper} {j k : Nat} {b c : Bool} (h : o.guard = some (j, b)) (hj : ops[j]? = some oj) (hd : oj.dst = some k) (hk : Nat.blt k N = true) (hv : lk F k = some (.bool c)) (hbc : (c == b) = false) : Region.wanted o (yielded ops a.tmps) = false :=
  unwanted_guard h hj hd (by rw [he.sz]; simpa [Nat.blt_eq] using hk) (he.ev _ _ hv) (by simpa using hbc)
end

theorem EnvD.wantU {DF : List Deferred} {N : Nat} {F : List (Nat × Value)} {a : Act} (he : EnvD DF N F a) {ops : Array Oper} {o oj : Oper} {j k : Nat} {b : Bool} (h : o.guard = some (j, b)) (hj : ops[j]? = some oj) (hd : oj.dst = some k) (hk : Nat.blt k N = true) (hv : lk F k = some undef) : Region.wanted o (yielded ops a.tmps) = false := by
  have hk' : k < a.tmps.size := by rw [he.sz]; simpa [Nat.blt_eq] using hk
  have h1 : a.tmps[k]? = some undef := by
    have hv' := he.ev _ _ hv
    rw [Array.getElem?_eq_getElem hk']
    simp only [Act.eval, Array.getD, hk', dif_pos] at hv'
    exact congrArg some hv'
  simp [Region.wanted, h, yielded, hj, hd, h1, undef]

/-- A block of the call's own: its number, its type, its cells. -/
structure Bk where
  p : Nat
  t : TypeId
  cs : Array Value
/-- Blocks that came since w0, all of them different ones, as they are now; of w0's blocks none has turned. -/
structure Hp (w0 : World) (H : List Bk) (w : World) : Prop where
  new : New w0 w
  nd : ∀ (i j : Nat) (b c : Bk), H[i]? = some b → H[j]? = some c → i ≠ j → b.p ≠ c.p
  bl : ∀ b ∈ H, w0.heap.size ≤ b.p ∧ Blk w b.p b.t b.cs

section
variable {w0 w w' : World} {H : List Bk}
theorem Hp.start (w : World) : Hp w [] w := ⟨Fr.refl _ _, by simp, by simp⟩
theorem Hp.at (h : Hp w0 H w) {i : Nat} {b : Bk} (hb : H[i]? = some b) : Blk w b.p b.t b.cs := (h.bl b (List.mem_of_getElem? hb)).2
theorem Hp.lo (h : Hp w0 H w) {i : Nat} {b : Bk} (hb : H[i]? = some b) : w0.heap.size ≤ b.p := (h.bl b (List.mem_of_getElem? hb)).1
theorem Hp.call (h : Hp w0 H w) (hn : New w w') : Hp w0 H w' :=
  ⟨Fr.trans h.new hn (fun _ _ h => h), h.nd, fun b hb => ⟨(h.bl b hb).1, (h.bl b hb).2.fr hn (fun h => h)⟩⟩
theorem Hp.cons (h : Hp w0 H w) {p : Nat} {t : TypeId} {cs : Array Value} (hn : New w w') (hp : w.heap.size ≤ p) (hb : Blk w' p t cs) : Hp w0 (⟨p, t, cs⟩ :: H) w' := by
  have fresh : ∀ c ∈ H, c.p ≠ p := fun c hc e => by
    have := (h.bl c hc).2.lt
    omega
  refine ⟨Fr.trans h.new hn (fun _ _ h => h), ?_, ?_⟩
  · intro i j b c hi hj hij
    cases i with
    | zero =>
      cases j with
      | zero => exact absurd rfl hij
      | succ j =>
        simp only [List.getElem?_cons_zero, Option.some.injEq] at hi
        subst hi
        exact (fresh c (List.mem_of_getElem? (by simpa using hj))).symm
    | succ i =>
      cases j with
      | zero =>
        simp only [List.getElem?_cons_zero, Option.some.injEq] at hj
        subst hj
        exact fresh b (List.mem_of_getElem? (by simpa using hi))
      | succ j => exact h.nd i j b c (by simpa using hi) (by simpa using hj) (fun e => hij (by rw [e]))
  · intro b hb'
    rcases List.mem_cons.1 hb' with rfl | hb'
    · exact ⟨Nat.le_trans h.new.size hp, hb⟩
    · exact ⟨(h.bl b hb').1, (h.bl b hb').2.fr hn (fun h => h)⟩
theorem Hp.alloc (h : Hp w0 H w) (t : TypeId) (cs : Array Value) : Hp w0 (⟨w.heap.size, t, cs⟩ :: H) (w.alloc (.cells cs t)) :=
  h.cons ((Fr.refl _ _).alloc _) (Nat.le_refl _) (Blk.new w t cs)
theorem Hp.drew (h : Hp w0 H w) : Hp w0 H w.drew := ⟨h.new.drew, h.nd, fun b hb => ⟨(h.bl b hb).1, (h.bl b hb).2⟩⟩
theorem Hp.set (h : Hp w0 H w) {i : Nat} {b : Bk} {cs : Array Value} (hb : H[i]? = some b) (hB : Blk w' b.p b.t cs) (hf : Fr (fun k => k = b.p) w w') : Hp w0 (H.set i ⟨b.p, b.t, cs⟩) w' := by
  have hlo := h.lo hb
  have key : ∀ (j : Nat) (c : Bk), (H.set i ⟨b.p, b.t, cs⟩)[j]? = some c → (i = j ∧ c = ⟨b.p, b.t, cs⟩) ∨ (i ≠ j ∧ H[j]? = some c) := by
    intro j c hj
    rw [List.getElem?_set] at hj
    by_cases e : i = j
    · left
      rw [if_pos e] at hj
      split at hj
      · simp only [Option.some.injEq] at hj
        exact ⟨e, hj.symm⟩
      · cases hj
    · right
      rw [if_neg e] at hj
      exact ⟨e, hj⟩
  refine ⟨⟨hf.os.trans h.new.os, hf.tape.trans h.new.tape, hf.output.trans h.new.output, Nat.le_trans h.new.size hf.size, fun k hk _ => (hf.block k (Nat.lt_of_lt_of_le hk h.new.size) (by omega)).trans (h.new.block k hk (fun h => h))⟩, ?_, fun c hc => ?_⟩
  · intro j k c d hj hk hjk
    rcases key j c hj with ⟨e1, rfl⟩ | ⟨e1, h1⟩ <;> rcases key k d hk with ⟨e2, rfl⟩ | ⟨e2, h2⟩
    · exact absurd (e1.symm.trans e2) hjk
    · exact h.nd i k b d hb h2 e2
    · exact h.nd j i c b h1 hb (Ne.symm e1)
    · exact h.nd j k c d h1 h2 hjk
  · obtain ⟨j, hj, e⟩ := List.mem_iff_getElem.1 hc
    rcases key j c (by rw [List.getElem?_eq_getElem hj, e]) with ⟨_, rfl⟩ | ⟨e1, h1⟩
    · exact ⟨hlo, hB⟩
    · exact ⟨h.lo h1, (h.at h1).fr hf (fun ep => h.nd j i c b h1 hb (Ne.symm e1) ep)⟩
/-- Fewer blocks: those at the given places. -/
theorem Hp.tail (h : Hp w0 H w) {b : Bk} {G : List Bk} (e : H = b :: G) : Hp w0 G w := by
  subst e
  exact ⟨h.new, fun i j c d hi hj hij => h.nd (i + 1) (j + 1) c d (by simpa using hi) (by simpa using hj) (by omega), fun c hc => h.bl c (List.mem_cons_of_mem _ hc)⟩
end

/-! ### Steps of the text -/
section
variable {P : Program} {Q : Exit → Act → World → Prop} {a : Act} {w : World}
/-- A piece of code from which only this is kept. -/
theorem reg_cut {c : Code} {K : Act → World → Prop} (I : Act → World → Prop) (h1 : c.wp P (Exit.then I (fun _ _ _ => False)) a w) (h2 : ∀ a w, I a w → K a w) : c.wp P (Exit.then K Q) a w :=
  wp_mono h1 (fun e a w h => by
    cases e with
    | normal => exact h2 a w h
    | _ => exact h.elim)
theorem then_ok {K : Act → World → Prop} (h : K a w) : Exit.then K Q .normal a w := h
theorem block_ok {id : Nat} (h : Q .normal a w) : Exit.inBlock id Q .normal a w := h
theorem ret_env {fn : Func} {t : Tmp} {N : Nat} {F : List (Nat × Value)} {v : Value} {R : Ending → World → Prop} (hf : fn.results = #[.tmp t]) (he : Env N F a) (hv : lk F t = some v) (hR : R (.returned v) w) : bodyPost P fn R .ret a w :=
  bodyPost_ret ((results_tmp hf a.tmps P w).trans (by rw [show a.tmps.getD t undef = v from he.ev _ _ hv])) he.df hR
theorem calls_env {f : FuncId} {fn : Func} {c : Code} {vl : List Value} {R : Ending → World → Prop} (N : Nat) (F : List (Nat × Value)) (hf : P.funcs[f]? = some fn) (hb : fn.body = some c)
    (hN : fn.ntmps = N) (hF : ∀ a : Act, a.tmps = vl.toArray ++ Array.replicate (N - vl.length) undef → ∀ k v, lk F k = some v → a.eval (.tmp k) = v) (hl : vl.length ≤ N)
    (h : ∀ a, Env N F a → c.wp P (bodyPost P fn R) a w) : Calls P f vl.toArray w R := by
  refine calls_of_wp hf hb (h _ ⟨?_, rfl, hF _ ?_⟩)
  · simp only [hN, Array.size_append, Array.size_replicate, List.size_toArray]
    omega
  · simp only [hN, List.size_toArray]
end

def enumF : Nat → List Value → List (Nat × Value)
  | _, [] => []
  | i, v :: l => (i, v) :: enumF (i + 1) l
theorem lk_enumF (l : List Value) : ∀ (i k : Nat) (v : Value), lk (enumF i l) k = some v → i ≤ k ∧ l[k - i]? = some v := by
  induction l with
  | nil => intro i k v h; simp [enumF, lk] at h
  | cons u l ih =>
    intro i k v h
    unfold enumF lk at h
    cases hb : Nat.beq i k with
    | true =>
      rw [hb] at h
      simp only [cond_true, Option.some.injEq] at h
      obtain rfl := Nat.eq_of_beq_eq_true hb
      subst h
      exact ⟨Nat.le_refl _, by simp⟩
    | false =>
      rw [hb] at h
      obtain ⟨h1, h2⟩ := ih (i + 1) k v h
      refine ⟨by omega, ?_⟩
      obtain ⟨j, hj⟩ : ∃ j, k - i = j + 1 := ⟨k - (i + 1), by omega⟩
      rw [hj, List.getElem?_cons_succ, ← h2]
      congr 1
      omega
/-- A call begins: the frame holds the arguments. -/
theorem calls_args {P : Program} {w : World} {f : FuncId} {fn : Func} {c : Code} {vl : List Value} {R : Ending → World → Prop} (N : Nat) (hf : P.funcs[f]? = some fn) (hb : fn.body = some c)
    (hN : fn.ntmps = N) (hl : Nat.ble vl.length N = true) (h : ∀ a, Env N (enumF 0 vl) a → c.wp P (bodyPost P fn R) a w) : Calls P f vl.toArray w R := by
  have hl := Nat.le_of_ble_eq_true hl
  refine calls_env N (enumF 0 vl) hf hb hN (fun a ha k v hk => ?_) hl h
  obtain ⟨-, h2⟩ := lk_enumF vl 0 k v hk
  rw [Nat.sub_zero] at h2
  have hlt : k < vl.length := (List.getElem?_eq_some_iff.1 h2).1
  simp only [Act.eval, Array.getD_eq_getD_getElem?, ha]
  rw [Array.getElem?_append_left (by simpa using hlt)]
  simp [h2]

section
variable {P : Program} {ops : Array Oper} {Q : Exit → Act → World → Prop} {a : Act} {w : World} {rest : List Oper} {o : Oper} {DF : List Deferred} {N k : Nat} {F : List (Nat × Value)}
/-- An operation that yields a value. -/
theorem lV (v : Value) {w' : World} (he : EnvD DF N F a) (hd : o.dst = some k) (hk : Nat.blt k N = true) (hw : Region.wanted o (yielded ops a.tmps) = true) (h : (execOp a.eval o).run P w = .ok (.value v) w')
    (next : ∀ a', EnvD DF N ((k, v) :: F) a' → wpList P ops Q rest a' w') : wpList P ops Q (o :: rest) a w :=
  wpList_step fun K hK => by rw [if_pos hw]; exact wp_valw h (hK _ _ (by rw [hd]; exact next _ (he.put hk v)))
/-- The same, its three plain conditions as one. -/
theorem lW (v : Value) {w' : World} (he : EnvD DF N F a) (h3 : (o.dst, o.guard, Nat.blt k N) = (some k, none, true)) (h : (execOp a.eval o).run P w = .ok (.value v) w')
    (next : ∀ a', EnvD DF N ((k, v) :: F) a' → wpList P ops Q rest a' w') : wpList P ops Q (o :: rest) a w :=
  lV v he (congrArg (·.1) h3) (congrArg (·.2.2) h3) (wanted_plain (congrArg (·.2.1) h3) _) h next
/-- An operation that is not asked for. -/
theorem lSkip (he : EnvD DF N F a) (hd : o.dst = some k) (hk : Nat.blt k N = true) (hw : Region.wanted o (yielded ops a.tmps) = false)
    (next : ∀ a', EnvD DF N ((k, undef) :: F) a' → wpList P ops Q rest a' w) : wpList P ops Q (o :: rest) a w :=
  wpList_step fun K hK => by rw [if_neg (by simp [hw])]; exact hK _ _ (by rw [hd]; exact next _ (he.put hk undef))
/-- A call that returns this. -/
theorem lC {f : FuncId} {fn : Func} {c : Code} {l : List Operand} {ats : Array TypeId} {vl : List Value} {v : Value} {R : World → Prop} (he : EnvD DF N F a) (hd : o.dst = some k) (hk : Nat.blt k N = true)
    (hf : P.funcs[f]? = some fn) (hname : (fn.name == "runtime.NumGoroutine") = false) (hb : fn.body = some c) (ho : o.op = .call { callee := .value (.func f), args := l.toArray, argTypes := ats })
    (hw : Region.wanted o (yielded ops a.tmps) = true) (hv : evL F l = some vl) (hc : Calls P f vl.toArray w fun e w' => e = .returned v ∧ R w')
    (next : ∀ w' a', R w' → EnvD DF N ((k, v) :: F) a' → wpList P ops Q rest a' w') : wpList P ops Q (o :: rest) a w :=
  wpList_step fun K hK => by
    rw [if_pos hw]
    exact wp_callF hf hname hb ho (he.args hv) (hc.mono fun e w' ⟨h1, h2⟩ => ⟨v, h1, hK _ _ (by rw [hd]; exact next _ _ h2 (he.put hk v))⟩)
/-- A call of which something is known. -/
theorem lCx {f : FuncId} {fn : Func} {c : Code} {l : List Operand} {ats : Array TypeId} {vl : List Value} {R : Ending → World → Prop} (he : EnvD DF N F a) (hd : o.dst = some k) (hk : Nat.blt k N = true)
    (hf : P.funcs[f]? = some fn) (hname : (fn.name == "runtime.NumGoroutine") = false) (hb : fn.body = some c) (ho : o.op = .call { callee := .value (.func f), args := l.toArray, argTypes := ats })
    (hw : Region.wanted o (yielded ops a.tmps) = true) (hv : evL F l = some vl) (hc : Calls P f vl.toArray w R)
    (next : ∀ e w', R e w' → ∃ v, e = .returned v ∧ ∀ a', EnvD DF N ((k, v) :: F) a' → wpList P ops Q rest a' w') : wpList P ops Q (o :: rest) a w :=
  wpList_step fun K hK => by
    rw [if_pos hw]
    exact wp_callF hf hname hb ho (he.args hv) (hc.mono fun e w' h => let ⟨v, h1, h2⟩ := next e w' h; ⟨v, h1, hK _ _ (by rw [hd]; exact h2 _ (he.put hk v))⟩)
/-- An operation that makes a block. -/
theorem lNew (mk : Nat → Value) {t : TypeId} {cs : Array Value} {w0 : World} {H : List Bk} (he : EnvD DF N F a) (hH : Hp w0 H w) (hd : o.dst = some k) (hk : Nat.blt k N = true)
    (hw : Region.wanted o (yielded ops a.tmps) = true) (h : (execOp a.eval o).run P w = .ok (.value (mk w.heap.size)) (w.alloc (.cells cs t)))
    (next : ∀ p w' a', New w w' → Hp w0 (⟨p, t, cs⟩ :: H) w' → EnvD DF N ((k, mk p) :: F) a' → wpList P ops Q rest a' w') : wpList P ops Q (o :: rest) a w :=
  wpList_step fun K hK => by rw [if_pos hw]; exact wp_valw h (hK _ _ (by rw [hd]; exact next _ _ _ ((Fr.refl _ _).alloc _) (hH.alloc t cs) (he.put hk _)))
end

def oneAll (cs : Array Value) : Bool := cs.toList.all (·.oneCell')
theorem oneAll_mem {cs : Array Value} (h : oneAll cs = true) : ∀ u ∈ cs.toList, u.oneCell' = true := fun u hu => by
  unfold oneAll at h
  rw [List.all_eq_true] at h
  exact h u hu

section
variable {ops : Array Oper} {Q : Exit → Act → World → Prop} {a : Act} {w w0 : World} {rest : List Oper} {o : Oper} {DF : List Deferred} {N k : Nat} {F : List (Nat × Value)} {H : List Bk}
end

/-! ### Steps of a region that draws its order -/
section
variable {P : Program} {md : Region.Mode} {ops : Array Oper} {Q : Exit → Act → World → Prop} {a : Act} {w : World} {S : World → Prop} {fuel : Nat} {listed : Array Bool} {DF : List Deferred} {N k : Nat} {F : List (Nat × Value)}
/-- An operation that may come up yields the same in whatever world that is held. -/
theorem hV {i : Nat} {o : Oper} (v : Value) (he : EnvD DF N F a) (ho : ops[i]? = some o) (hd : o.dst = some k) (hk : Nat.blt k N = true) (hs : Region.noSelect ops = true) (hf : Region.free md ops listed i = true) (hr : (Region.ready md ops listed).contains i = true)
    (hQ : ∀ c a w, Q (.panic c) (a.put o.dst v) w → Q (.panic c) a w) (hw : Region.wanted o (yielded ops a.tmps) = true) (h : ∀ w', S w' → (execOp a.eval o).run P w' = .ok (.value v) w') (hS : S w)
    (next : ∀ a', EnvD DF N ((k, v) :: F) a' → wpAnyH P md ops Q S fuel (listed.setIfInBounds i true) a' w) : wpAnyH P md ops Q S (fuel + 1) listed a w :=
  wpAnyH_take ho hs hf hr hQ (Or.inl ⟨hw, h⟩) hS (by rw [hd]; exact next _ (he.put hk v))
/-- The same, with fewer conditions. -/
theorem hW {i : Nat} {o : Oper} (v : Value) (he : EnvD DF N F a) (h4 : (ops[i]?, o.dst, o.guard, Nat.blt k N) = (some o, some k, none, true)) (h3 : (Region.noSelect ops && Region.free md ops listed i && (Region.ready md ops listed).contains i) = true)
    (hQ : ∀ c a w, Q (.panic c) (a.put o.dst v) w → Q (.panic c) a w) (h : ∀ w', S w' → (execOp a.eval o).run P w' = .ok (.value v) w') (hS : S w)
    (next : ∀ a', EnvD DF N ((k, v) :: F) a' → wpAnyH P md ops Q S fuel (listed.setIfInBounds i true) a' w) : wpAnyH P md ops Q S (fuel + 1) listed a w := by
  simp only [Bool.and_eq_true] at h3
  exact hV v he (congrArg (·.1) h4) (congrArg (·.2.1) h4) (congrArg (·.2.2.2) h4) h3.1.1 h3.1.2 h3.2 hQ (wanted_plain (congrArg (·.2.2.1) h4) _) h hS next
theorem hSkip {i : Nat} {o : Oper} (he : EnvD DF N F a) (ho : ops[i]? = some o) (hd : o.dst = some k) (hk : Nat.blt k N = true) (hs : Region.noSelect ops = true) (hf : Region.free md ops listed i = true) (hr : (Region.ready md ops listed).contains i = true)
    (hQ : ∀ c a w, Q (.panic c) (a.put o.dst undef) w → Q (.panic c) a w) (hw : Region.wanted o (yielded ops a.tmps) = false) (hS : S w)
    (next : ∀ a', EnvD DF N ((k, undef) :: F) a' → wpAnyH P md ops Q S fuel (listed.setIfInBounds i true) a' w) : wpAnyH P md ops Q S (fuel + 1) listed a w :=
  wpAnyH_take ho hs hf hr hQ (Or.inr ⟨hw, rfl⟩) hS (by rw [hd]; exact next _ (he.put hk undef))
/-- A call that alone may come up. -/
theorem hC {i : Nat} {o : Oper} {f : FuncId} {fn : Func} {c : Code} {l : List Operand} {ats : Array TypeId} {vl : List Value} {R : Ending → World → Prop} (he : EnvD DF N F a) (hr : Region.ready md ops listed = [i]) (hoi : ops[i]? = some o) (hd : o.dst = some k) (hk : Nat.blt k N = true)
    (hf : P.funcs[f]? = some fn) (hname : (fn.name == "runtime.NumGoroutine") = false) (hb : fn.body = some c) (ho : o.op = .call { callee := .value (.func f), args := l.toArray, argTypes := ats })
    (hw : Region.wanted o (yielded ops a.tmps) = true) (hv : evL F l = some vl) (hc : Calls P f vl.toArray w R)
    (next : ∀ e w', R e w' → ∃ v, e = .returned v ∧ S w' ∧ ∀ a', EnvD DF N ((k, v) :: F) a' → wpAnyH P md ops Q S fuel (listed.setIfInBounds i true) a' w') : wpAnyH P md ops Q S (fuel + 1) listed a w :=
  allH hr hoi hw (fun K hK => wp_callF hf hname hb ho (he.args hv) (hc.mono fun e w' h => let ⟨v, h1, hS, h2⟩ := next e w' h; ⟨v, h1, hK _ _ hS (by rw [hd]; exact h2 _ (he.put hk v))⟩))
end
section
variable {md : Region.Mode} {ops : Array Oper} {Q : Exit → Act → World → Prop} {a : Act} {w w0 : World} {S : World → Prop} {fuel : Nat} {listed : Array Bool} {DF : List Deferred} {N k : Nat} {F : List (Nat × Value)} {H : List Bk}
end
theorem least (p : Nat → Prop) : ∀ n, p n → ∃ m, p m ∧ ∀ k, p k → m ≤ k := by
  intro n
  induction n using Nat.strongRecOn with
  | _ n ih =>
    intro hn
    by_cases h : ∃ k, k < n ∧ p k
    · obtain ⟨k, hk, hp⟩ := h
      exact ih k hk hp
    · exact ⟨n, hn, fun k hk => Nat.le_of_not_lt fun hlt => h ⟨k, hlt, hk⟩⟩
section
variable {P : Program} {Q : Exit → Act → World → Prop} {a : Act} {w : World}
/-- A loop whose rounds count down. -/
theorem loop_nat {c : Code} (I : Nat → Act → World → Prop) (n : Nat) (h0 : I n a w) (round : ∀ m a w, I m a w → c.wp P (Exit.then (fun a' w' => ∃ m', m' < m ∧ I m' a' w') Q) a w) : (Code.loop c).wp P Q a w := by
  classical
  have hl : ∀ a w, (∃ m, I m a w) → ∃ m, I m a w ∧ ∀ k, I k a w → m ≤ k := fun a w ⟨m, h⟩ => least (fun m => I m a w) m h
  refine wp_loop (fun a w => ∃ m, I m a w) (fun a w => if h : ∃ m, I m a w then Classical.choose (hl a w h) else 0) ⟨n, h0⟩ (fun a w hI => ?_)
  have hm := Classical.choose_spec (hl a w hI)
  refine wp_mono (round _ a w hm.1) (fun e a' w' h => ?_)
  cases e with
  | normal =>
    obtain ⟨m', hlt, h'⟩ := h
    have hE : ∃ m, I m a' w' := ⟨m', h'⟩
    refine ⟨hE, ?_⟩
    simp only [dif_pos hE, dif_pos hI]
    exact Nat.lt_of_le_of_lt ((Classical.choose_spec (hl a' w' hE)).2 m' h') hlt
  | _ => exact h
end
end Go.Proofs.YtlpjhaghphmbeaaDoor
namespace Go.Proofs.YtlpjhaghphmbeaaDoor
open Go.RowKit

theorem own_slice16 {w : World} {base : Nat} {e : TypeId} {v : Value} {n : Nat} {xs : List Value} (h : w.ownsRow base e 16 v n xs) : ∃ A c, v = .slice A n c ∧ n ≤ c ∧ c ≤ maxLen := by
  rcases h.2 with ⟨rfl, rfl⟩ | ⟨g, cap, cur, rfl, _, _, hc, hm, _⟩
  · exact ⟨none, 0, rfl, Nat.le_refl _, Nat.zero_le _⟩
  · exact ⟨_, cap, rfl, hc, hm⟩
theorem own_blk {w : World} {base : Nat} {e : TypeId} {sz n : Nat} {v : Value} {xs : List Value} (h : w.ownsRow base e sz v n xs) : ∀ k, v.ownBlock = some k → base ≤ k := by
  intro k hk
  rcases h.2 with ⟨rfl, _⟩ | ⟨g, cap, cur, rfl, hb, _⟩
  · simp [Value.ownBlock] at hk
  · have : g = k := by simpa [Value.ownBlock] using hk
    omega

section
variable {ρ : Operand → Value} {o : Oper} {x y : Operand}
theorem rn_lenC {A : Option Addr} {n c : Nat} (h : o.op = .call { callee := .builtin .len, args := #[x], argTypes := #[34] }) (hv : ρ x = .slice A n c) (w : World) : (execOp ρ o).run Tryd.prog w = .ok (.value (.int .i64 n)) w := by
  obtain ⟨dst, op, ty, pos, after, guard⟩ := o
  simp only at h
  subst h
  go_simp
theorem rn_gtr {i j : Int} {b : Bool} (h : o.op = .binOp .gtr 3 x y 3) (hx : ρ x = .int .i64 i) (hy : ρ y = .int .i64 j) (hb : decide (j < i) = b) (w : World) : (execOp ρ o).run Tryd.prog w = .ok (.value (.bool b)) w := by
  subst hb
  obtain ⟨dst, op, ty, pos, after, guard⟩ := o
  simp only at h
  subst h
  go_simp
theorem rn_lss {i j : Int} {b : Bool} (h : o.op = .binOp .lss 3 x y 3) (hx : ρ x = .int .i64 i) (hy : ρ y = .int .i64 j) (hb : decide (i < j) = b) (w : World) : (execOp ρ o).run Tryd.prog w = .ok (.value (.bool b)) w := by
  subst hb
  obtain ⟨dst, op, ty, pos, after, guard⟩ := o
  simp only at h
  subst h
  go_simp
theorem rn_leq {i j : Int} {b : Bool} (h : o.op = .binOp .leq 3 x y 3) (hx : ρ x = .int .i64 i) (hy : ρ y = .int .i64 j) (hb : decide (i ≤ j) = b) (w : World) : (execOp ρ o).run Tryd.prog w = .ok (.value (.bool b)) w := by
  subst hb
  obtain ⟨dst, op, ty, pos, after, guard⟩ := o
  simp only at h
  subst h
  go_simp
theorem rn_geq {i j : Int} {b : Bool} (h : o.op = .binOp .geq 3 x y 3) (hx : ρ x = .int .i64 i) (hy : ρ y = .int .i64 j) (hb : decide (j ≤ i) = b) (w : World) : (execOp ρ o).run Tryd.prog w = .ok (.value (.bool b)) w := by
  subst hb
  obtain ⟨dst, op, ty, pos, after, guard⟩ := o
  simp only at h
  subst h
  go_simp
theorem rn_add1 {i j r : Int} (h : o.op = .binOp .add 3 x y 3) (hx : ρ x = .int .i64 i) (hy : ρ y = .int .i64 j) (hr : IntKind.i64.wrap (i + j) = r) (w : World) : (execOp ρ o).run Tryd.prog w = .ok (.value (.int .i64 r)) w := by
  subst hr
  obtain ⟨dst, op, ty, pos, after, guard⟩ := o
  simp only at h
  subst h
  go_simp
theorem rn_neI {i j : Int} {b : Bool} (h : o.op = .binOp .neq 3 x y 3) (hx : ρ x = .int .i64 i) (hy : ρ y = .int .i64 j) (hb : (i != j) = b) (w : World) : (execOp ρ o).run Tryd.prog w = .ok (.value (.bool b)) w := by
  subst hb
  obtain ⟨dst, op, ty, pos, after, guard⟩ := o
  simp only at h
  subst h
  go_simp
theorem rn_eqE {i j : Int} {b : Bool} (h : o.op = .binOp .eql 26 x y 26) (hx : ρ x = .int .i64 i) (hy : ρ y = .int .i64 j) (hb : (i == j) = b) (w : World) : (execOp ρ o).run Tryd.prog w = .ok (.value (.bool b)) w := by
  subst hb
  obtain ⟨dst, op, ty, pos, after, guard⟩ := o
  simp only at h
  subst h
  go_simp
theorem rn_neE {i j : Int} {b : Bool} (h : o.op = .binOp .neq 26 x y 26) (hx : ρ x = .int .i64 i) (hy : ρ y = .int .i64 j) (hb : (i != j) = b) (w : World) : (execOp ρ o).run Tryd.prog w = .ok (.value (.bool b)) w := by
  subst hb
  obtain ⟨dst, op, ty, pos, after, guard⟩ := o
  simp only at h
  subst h
  go_simp
theorem rn_ext {i : Nat} {vs : Array Value} {v : Value} (h : o.op = .extract x i) (hx : ρ x = .tuple vs) (hv : vs[i]? = some v) (w : World) : (execOp ρ o).run Tryd.prog w = .ok (.value v) w := by
  obtain ⟨dst, op, ty, pos, after, guard⟩ := o
  simp only at h
  subst h
  go_simp
theorem rn_idx {A : Addr} {n c i : Nat} {p : Value} (h : o.op = .indexAddr 34 x y) (hx : ρ x = .slice (some A) n c) (hy : ρ y = .int .i64 i) (hi : i < n) (hp : .pointer (some (A.add (i * 16))) = p) (w : World) : (execOp ρ o).run Tryd.prog w = .ok (.value p) w := by
  subst hp
  obtain ⟨dst, op, ty, pos, after, guard⟩ := o
  simp only at h
  subst h
  go_simp
end

theorem rn_loadM {ρ : Operand → Value} {o : Oper} {x : Operand} {b off o0 i n : Nat} {l : List Ce} {c : Ce} {w : World} (h : o.op = .load 95 x) (hx : ρ x = .pointer (some ⟨b, off, none⟩)) (hr : RdC w b (some ⟨b, o0, none⟩) n l) (hi : i < n) (hoff : off = o0 + i * 16) (hc : l[i]? = some c) :
    (execOp ρ o).run Tryd.prog w = .ok (.value c.v) w := by
  subst hoff
  obtain ⟨o', ho', _, hcell⟩ := hr.2 (by omega)
  obtain rfl : o0 = o' := by simpa using ho'
  have hl : i < l.length := by rw [hr.1]; exact hi
  have hcl : l[i] = c := by rw [List.getElem?_eq_getElem hl] at hc; simpa using hc
  have hR : w.rangeAt b (o0 + i * 16) c.ls := fun j v hv => by
    have hj : j < 16 := by
      have := (List.getElem?_eq_some_iff.1 hv).1
      simpa [Ce.ls] using this
    rw [Nat.add_assoc, hcell (i * 16 + j) (by omega), flatC_at l i j hl hj, hcl]
    exact hv
  have hs : (Tryd.prog.info? 95).map (·.size) = some c.ls.length := infoC16
  unfold execOp
  simp only [h, hx, run_loadAt_mid w b (o0 + i * 16) 95 c.ls _ hR undC rfl hs, Sem.run_bind, Sem.run_pure, Result.andThen_ok]
  rfl
theorem rn_boxC {ρ : Operand → Value} {o : Oper} {x : Operand} {c : Ce} (h : o.op = .box 95 x) (hx : ρ x = c.v) (w : World) : (execOp ρ o).run Tryd.prog w = .ok (.value (.pointer (some ⟨w.heap.size, 0, none⟩))) (w.alloc (.cells c.cs 95)) := by
  unfold execOp
  simp only [h, hx]
  kernel_rfl
section
variable {ops : Array Oper} {Q : Exit → Act → World → Prop} {a : Act} {w : World} {rest : List Oper} {o : Oper} {N k : Nat} {F : List (Nat × Value)}
end
end Go.Proofs.YtlpjhaghphmbeaaDoor
