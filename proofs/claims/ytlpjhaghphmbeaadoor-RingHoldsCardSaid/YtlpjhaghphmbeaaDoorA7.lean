/-
  Regions that draw their order: an allocation that alone may come up, a call beside an allocation; and regions of calls and allocations of which only so much is known as no other one turns, whatever the order.
  Rows of the call's own: append, and what else is known behind it; rows of cells as records; make.
  packed.Unpack and the specification's Cells.
  Regions of calls and allocations in whatever order: what is known of each slot.
-/
import Derived.Test.YtlpjhaghphmbeaaDoorA6
import Derived.Test.YtlpjhaghphmbeaaDoorPPen
import Derived.Test.YtlpjhaghphmbeaaDoorDValid
import Derived.Laws.MakeOwn
namespace Go.Proofs.YtlpjhaghphmbeaaDoor
open Go.RowKit

theorem Hp.drop1 {w0 w : World} {H : List Bk} (h : Hp w0 H w) (i : Nat) {G : List Bk} (e : H.eraseIdx i = G) : Hp w0 G w := by
  subst e
  have key : ∀ (j : Nat) (b : Bk), (H.eraseIdx i)[j]? = some b → ∃ j', H[j']? = some b ∧ j' ≠ i ∧ (j' = if j < i then j else j + 1) := by
    intro j b hj
    rw [List.getElem?_eraseIdx] at hj
    split at hj
    · rename_i hlt; exact ⟨j, hj, by omega, by rw [if_pos hlt]⟩
    · rename_i hlt; exact ⟨j + 1, hj, by omega, by rw [if_neg hlt]⟩
  refine ⟨h.new, ?_, fun b hb => h.bl b (List.mem_of_mem_eraseIdx hb)⟩
  intro j k b c hj hk hjk
  obtain ⟨j', h1, -, e1⟩ := key j b hj
  obtain ⟨k', h2, -, e2⟩ := key k c hk
  exact h.nd j' k' b c h1 h2 (fun e => hjk (by split at e1 <;> split at e2 <;> omega))
section
variable {P : Program} {ops : Array Oper} {Q : Exit → Act → World → Prop} {S : World → Prop} {md : Region.Mode} {fuel : Nat} {listed : Array Bool} {a : Act} {w w0 : World} {N k : Nat} {F : List (Nat × Value)} {H : List Bk}
/-! ### Whatever the order -/
def depsOf (md : Region.Mode) (o : Oper) : List Nat := (o.after.toList.filter (Region.binds md)).map (·.on)
def dstOf (ops : Array Oper) (j : Nat) : Nat := ((ops[j]?).bind (·.dst)).getD 0
/-- What is known of the slots that the region doesn't write, and of the world. -/
structure Base (N : Nat) (F : List (Nat × Value)) (S : World → Prop) (a : Act) (w : World) : Prop where
  env : Env N F a
  held : S w
/-- One operation of it: behind those that it waits for it does what is known of it. -/
def StepOk (P : Program) (md : Region.Mode) (ops : Array Oper) (Q : Exit → Act → World → Prop) (N : Nat) (F : List (Nat × Value)) (S : World → Prop) (I : Nat → Value → World → Prop) (k : Nat) (o : Oper) : Prop :=
  ∀ a w, Base N F S a w → (∀ j, (depsOf md o).contains j = true → I j (a.eval (.tmp (dstOf ops j))) w) →
    (Region.wanted o (yielded ops a.tmps) = false ∧ I k undef w) ∨ (Region.wanted o (yielded ops a.tmps) = true ∧ Does P Q o a w (fun v w' => New w w' ∧ I k v w'))
def StepsAll (P : Program) (md : Region.Mode) (ops : Array Oper) (Q : Exit → Act → World → Prop) (N : Nat) (F : List (Nat × Value)) (S : World → Prop) (I : Nat → Value → World → Prop) : Nat → List Oper → Prop
  | _, [] => True
  | k, o :: l => StepOk P md ops Q N F S I k o ∧ StepsAll P md ops Q N F S I (k + 1) l
theorem StepsAll.at {I : Nat → Value → World → Prop} : ∀ {l : List Oper} {i : Nat}, StepsAll P md ops Q N F S I i l → ∀ k o, l[k]? = some o → StepOk P md ops Q N F S I (i + k) o := by
  intro l
  induction l with
  | nil => intro i _ k o h; simp at h
  | cons x l ih =>
    intro i h k o hk
    cases k with
    | zero => simp only [List.getElem?_cons_zero, Option.some.injEq] at hk; subst hk; exact h.1
    | succ k =>
      have := ih h.2 k o (by simpa using hk)
      rwa [show i + 1 + k = i + (k + 1) by omega] at this
structure Got (N : Nat) (ops : Array Oper) (F : List (Nat × Value)) (S : World → Prop) (I : Nat → Value → World → Prop) (listed : Array Bool) (a : Act) (w : World) : Prop where
  size : listed.size = ops.size
  base : Base N F S a w
  got : ∀ k, listed.getD k false = true → I k (a.eval (.tmp (dstOf ops k))) w
theorem EnvD.off {DF : List Deferred} {s : Nat} (he : EnvD DF N F a) (hf : lk F s = none) (v : Value) : EnvD DF N F (a.put (some s) v) := by
  refine ⟨by rw [sz_put]; exact he.sz, he.df, fun j u h => ?_⟩
  have hne : j ≠ s := fun e => by rw [e, hf] at h; cases h
  rw [ev_ne hne]
  exact he.ev j u h
end
end Go.Proofs.YtlpjhaghphmbeaaDoor
namespace Go.Proofs.YtlpjhaghphmbeaaDoor
open Go.RowKit

section
variable {α : Type} {R : Rec α}
/-- append of records onto a row of the call's own, whatever the source is. -/
theorem run_appendO (w : World) (base : Nat) (ty : TypeId) (v : Value) (n : Nat) (l : List α) (hown : w.ownsRow base R.ty R.sz v n (flatG R l))
    (b : Nat) (A : Option Addr) (m c : Nat) (news : List α) (hr : RdG R w b A m news) (hnm : n + m ≤ 100000000) (hbase : base ≤ w.heap.size) :
    ∃ v' w', (Builtin.append_ #[R.sl, R.sl] ty #[v, .slice A m c]).run Tryd.prog w = .ok v' w' ∧ w'.ownsRow base R.ty R.sz v' (n + m) (flatG R (l ++ news)) ∧ w.grownBy w' v.ownBlock ∧ (v'.ownBlock = v.ownBlock ∨ v'.ownBlock = some w.heap.size) := by
  obtain ⟨i, hi, hz, hsize, hby⟩ := info_parts R.info
  have ht := R.und
  have hmb : (n + m) * R.by_ ≤ 140737488355328 := Nat.le_trans (Nat.mul_le_mul hnm R.small) (by decide)
  rcases Nat.eq_zero_or_pos m with rfl | hm
  · have hn : news = [] := List.eq_nil_of_length_eq_zero hr.1
    subst hn
    rcases A with _ | ad
    · refine ⟨v, w, ?_, by simpa using hown, ⟨rfl, rfl, rfl, Nat.le_refl _, fun _ _ _ => rfl⟩, .inl rfl⟩
      rcases hown.2 with ⟨rfl, rfl⟩ | ⟨g, cap, cur, rfl, _, _, hnc, _⟩
      · simp [Builtin.append_, run_underlying ht, sizeOf, typeInfo, hi, Builtin.lenOf, Builtin.firstCells]
      · simp [Builtin.append_, run_underlying ht, sizeOf, typeInfo, hi, Builtin.lenOf, Builtin.firstCells, hnc, storeCells]
    · obtain ⟨v', w', h2, h3, h4, _, h5⟩ := run_append_own_at (P := Tryd.prog) w base R.sl ty R.ty i _ R.sz R.by_ ht hi hz hsize hby R.zc R.pos v n (flatG R l) hown ad 0 c [] (by simp) (by simp) (by simp) (by unfold maxLen; omega) (by simpa using hmb) hbase
      exact ⟨v', w', h2, by simpa using h3, h4, h5⟩
  · obtain ⟨o, rfl, _, hc⟩ := hr.2 hm
    obtain ⟨v', w', h2, h3, h4, _, h5⟩ := run_append_own_at (P := Tryd.prog) w base R.sl ty R.ty i _ R.sz R.by_ ht hi hz hsize hby R.zc R.pos v n (flatG R l) hown ⟨b, o, none⟩ m c (flatG R news) (by rw [flatG_len, hr.1]) (fun j u hu => by
      have hj : j < m * R.sz := by
        have := (List.getElem?_eq_some_iff.1 hu).1
        rw [flatG_len, hr.1] at this
        exact this
      rw [addr_add, hc j hj, hu]) (flatG_one R news) (by unfold maxLen; omega) hmb hbase
    exact ⟨v', w', h2, by rw [flatG_append]; exact h3, h4, h5⟩
variable {ops : Array Oper} {Q : Exit → Act → World → Prop} {a : Act} {w : World} {rest : List Oper} {o : Oper} {N k : Nat} {F : List (Nat × Value)} {l : List α} {n b : Nat} {A : Option Addr}
end
theorem Hp.own {w0 w w' : World} {H : List Bk} {S : Nat → Prop} (h : Hp w0 H w) (hf : Fr S w w') (hS : ∀ k, S k → w0.heap.size ≤ k) (hne : ∀ b ∈ H, ¬ S b.p) : Hp w0 H w' :=
  ⟨Fr.trans h.new hf (fun i hi hs => by have := hS i hs; omega), h.nd, fun b hb => ⟨(h.bl b hb).1, (h.bl b hb).2.fr hf (hne b hb)⟩⟩
/-- Cells as records. -/
def rC : Rec Ce where
  sz := 16
  ty := 95
  sl := 34
  ls := Ce.ls
  z := zeroCe.v
  by_ := 64
  len _ := rfl
  pos := by decide
  one x u hu := one_cs x u (by simpa [Ce.ls, Ce.cs] using hu)
  info := by kernel_rfl
  zc := rfl
  small := by decide
  und := Tryd.underlying34
  row _ := ⟨_, undC, rfl⟩
theorem rdc_of {w : World} {b n : Nat} {A : Option Addr} {l : List Ce} (h : RdG rC w b A n l) : RdC w b A n l := h
theorem of_rdc {w : World} {b n : Nat} {A : Option Addr} {l : List Ce} (h : RdC w b A n l) : RdG rC w b A n l := h
section
variable {ρ : Operand → Value} {o : Oper} {x : Operand}
end
end Go.Proofs.YtlpjhaghphmbeaaDoor
namespace Go.Proofs.YtlpjhaghphmbeaaDoor
open Go.RowKit

abbrev OwnC (w : World) (base : Nat) (v : Value) (n : Nat) (l : List Ce) : Prop := w.ownsRow base 95 16 v n (flatG rC l)
theorem own_lt {w : World} {base sz n : Nat} {e : TypeId} {v : Value} {xs : List Value} (h : w.ownsRow base e sz v n xs) : ∀ k, v.ownBlock = some k → k < w.heap.size := by
  intro k hk
  rcases h.2 with ⟨rfl, _⟩ | ⟨g, cap, cur, rfl, _, hg, _⟩
  · simp [Value.ownBlock] at hk
  · have : g = k := by simpa [Value.ownBlock] using hk
    subst this
    exact Blk.lt hg

end Go.Proofs.YtlpjhaghphmbeaaDoor
namespace Go.Proofs.YtlpjhaghphmbeaaDoor
open Go.RowKit

inductive Kd where
  | val (v : Value)
  | runs (q : Nat) (l : List Rn)
  | cells (q : Nat) (l : List Ce)
theorem EnvD.add {DF : List Deferred} {N : Nat} {F : List (Nat × Value)} {a : Act} (he : EnvD DF N F a) {k : Nat} {v : Value} (h : a.eval (.tmp k) = v) : EnvD DF N ((k, v) :: F) a := by
  refine ⟨he.sz, he.df, fun j u hj => ?_⟩
  unfold lk at hj
  cases hb : Nat.beq k j with
  | true =>
    rw [hb] at hj
    simp only [cond_true, Option.some.injEq] at hj
    obtain rfl := Nat.eq_of_beq_eq_true hb
    rw [h, hj]
  | false =>
    rw [hb] at hj
    exact he.ev j u hj
section
variable {P : Program} {ops : Array Oper} {Q : Exit → Act → World → Prop} {S : World → Prop} {md : Region.Mode} {N k : Nat} {F : List (Nat × Value)} {I : Nat → Value → World → Prop} {o : Oper} {l : List Oper}
theorem StepsAll.cons (h : StepOk P md ops Q N F S I k o) (t : StepsAll P md ops Q N F S I (k + 1) l) : StepsAll P md ops Q N F S I k (o :: l) := ⟨h, t⟩
theorem StepsAll.nil : StepsAll P md ops Q N F S I k [] := trivial
end
end Go.Proofs.YtlpjhaghphmbeaaDoor
