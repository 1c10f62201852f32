/-
  The function that yields the pages, and a range over it.
-/
import Derived.Test.YtlpjhaghphmbeaaDoorRRingC
import Derived.Test.YtlpjhaghphmbeaaDoorSSplit
namespace Go.Proofs.YtlpjhaghphmbeaaDoor
open Go.RowKit

section
variable {DF : List Deferred} {P : Program} {l n : Nat} {ops : Array Oper} {Q : Exit → Act → World → Prop} {a : Act} {w w' : World} {o : Oper} {rest : List Oper} {N k : Nat} {F : List (Nat × Value)}
/-- A value, outside of rounds, where a call of yield stands in the region. -/
theorem liV (v : Value) (he : EnvD DF N F a) (hd : o.dst = some k) (hk : Nat.blt k N = true) (hdf : noDefer o = true) (hw : Region.wanted o (yielded ops a.tmps) = true) (h : (execOp a.eval o).run P w = .ok (.value v) w')
    (next : ∀ a', EnvD DF N ((k, v) :: F) a' → wpListIn Fence.wide n P ops Q rest a' w') : wpListIn Fence.wide n P ops Q (o :: rest) a w := by
  unfold wpListIn
  rw [if_pos hw]
  refine ⟨fun _ _ => trivial, ?_⟩
  rw [Oper.semAt_plain Fence.wide a.eval o (noDefer_ne hdf), h]
  show wpListIn Fence.wide n P ops Q rest (a.put o.dst v) w'
  rw [hd]
  exact next _ (he.put hk v)
/-- yield is called. -/
theorem liY {x y : Operand} {u : Value} {ts : Array TypeId} {R : Ending → World → Prop} (he : EnvD DF N F a) (hd : o.dst = some k) (hk : Nat.blt k N = true) (hw : Region.wanted o (yielded ops a.tmps) = true) (ho : o.op = .call { callee := .value x, args := #[y], argTypes := ts })
    (hx : evO F x = some (.func (.yield l) #[] #[])) (hy : evO F y = some u) (h : ∃ fn tmps assign body, (Instr.yield l #[u]).run P w = .ok (.round l fn tmps assign body) w ∧ RoundIn Fence.wide (n - 1) P l fn tmps assign body w R)
    (next : ∀ e w', R e w' → ∃ v, e = .returned v ∧ ∀ a', EnvD DF N ((k, v) :: F) a' → wpListIn Fence.wide n P ops Q rest a' w') : wpListIn Fence.wide n P ops Q (o :: rest) a w := by
  obtain ⟨fn, tmps, assign, body, h1, h2⟩ := h
  have hrun : (execOp a.eval o).run P w = .ok (.round l fn tmps assign body) w := by
    unfold execOp
    simp only [ho, resolve, List.map_toArray, List.map_cons, List.map_nil, he.op hx, he.op hy, Deferred.ofValue, Sem.run_bind, Sem.run_pure, Result.andThen_ok, invoke]
    exact h1
  unfold wpListIn
  rw [if_pos hw]
  refine ⟨fun _ _ => trivial, ?_⟩
  rw [Oper.semAt_plain Fence.wide a.eval o (fun c hc => by rw [ho] at hc; cases hc), hrun]
  refine ⟨fun h => by simp [Fence.wide] at h, h2.mono (fun e w' hR => ?_)⟩
  obtain ⟨v, rfl, h3⟩ := next e w' hR
  show wpListIn Fence.wide n P ops Q rest (a.put o.dst v) w'
  rw [hd]
  exact h3 _ (he.put hk v)
end
section
variable {r e w : World} {S0 : FP} {ps : List Nat} {a b : Nat} {D : List Dat} {H : List Bk} {x y : Bk}
theorem Dt.swap {m : Nat} (h : Dt r e S0 m (a :: b :: ps) D w) (hm : m ≤ ps.length := by simp) : Dt r e S0 m (b :: a :: ps) D w := by
  obtain ⟨G, h1, h2⟩ := h.ex
  refine ⟨h.fr, h.tab, h.s0, h.rt, h.es, fun i q hi hlt => ?_, fun q hq => h.lt q (by simp only [List.mem_cons] at hq ⊢; rcases hq with h1 | h1 | h1; exact .inr (.inl h1); exact .inl h1; exact .inr (.inr h1)), G, h1, fun k hk => ⟨(h2 k hk).1, (h2 k hk).2.1, fun hm => (h2 k hk).2.2 (by simp only [List.mem_cons] at hm ⊢; rcases hm with h1 | h1 | h1; exact .inr (.inl h1); exact .inl h1; exact .inr (.inr h1))⟩⟩
  match i, hi, hlt with
  | 0, hi, _ => exact h.wr 1 q hi (by simp only [List.length_cons]; omega)
  | 1, hi, _ => exact h.wr 0 q hi (by simp only [List.length_cons]; omega)
  | i + 2, hi, hlt => exact h.wr (i + 2) q hi (by simpa using hlt)
theorem Hp.swap (h : Hp r (x :: y :: H) w) : Hp r (y :: x :: H) w := by
  let s : Nat → Nat := fun i => if i = 0 then 1 else if i = 1 then 0 else i
  have hs : ∀ (i : Nat) (c : Bk), (y :: x :: H)[i]? = some c → (x :: y :: H)[s i]? = some c := fun i c hc => by
    match i, hc with
    | 0, hc => exact hc
    | 1, hc => exact hc
    | i + 2, hc => simpa [s] using hc
  have hinj : ∀ i j : Nat, i ≠ j → s i ≠ s j := fun i j hij => by
    simp only [s]
    split <;> split <;> (try split) <;> (try split) <;> omega
  exact ⟨h.new, fun i j b c hb hc hij => h.nd (s i) (s j) b c (hs i b hb) (hs j c hc) (hinj i j hij), fun b hb => h.bl b (by simp only [List.mem_cons] at hb ⊢; rcases hb with h1 | h1 | h1; exact .inr (.inl h1); exact .inl h1; exact .inr (.inr h1))⟩
end
theorem rn_mkF {ρ : Operand → Value} {o : Oper} {x : Operand} {v : Value} {f : Fn} (h : o.op = .makeFunc f #[x] #[]) (hx : ρ x = v) (w : World) : (execOp ρ o).run Tryd.prog w = .ok (.value (.func f #[v] #[])) w := by
  unfold execOp
  simp only [h, List.map_toArray, List.map_cons, List.map_nil, hx]
  rfl
/-- As wp_region_split1, in a round. -/
theorem rsplit1_in {P : Program} {Q : Exit → Act → World → Prop} {a : Act} {w : World} {id l n : Nat} {ops : Array Oper} {S : World → Prop} (hops : ops.all noDefer = true) (hQ : ¬ LetsOut Q) (k m : Nat) (hm : P.follows .mixedOrders = true) (hkm : Nat.beq (k + m) ops.size = true) (ht : tailB .any ops k = true)
    (h : wpAnyH P .any (headOps ops k) (headQ Q (fun a w => wpAny P .any ops Q m (Array.replicate k true ++ Array.replicate m false) a w)) S k (Array.replicate k false) a w.drew) : (Code.region id ops true).wpIn (Wl l) n P Q a w := by
  have e := Nat.eq_of_beq_eq_true hkm
  have e2 : ops.size - k = m := by omega
  have h2 := wpAny_head (by omega) ht (fun a w h => by rw [e2]; exact h) k (Array.replicate k false) a w.drew (by simp) h
  rw [show k + (ops.size - k) = ops.size by omega] at h2
  have e3 : Array.replicate k false ++ Array.replicate (ops.size - k) false = Array.replicate ops.size false := by
    apply Array.ext'
    simp only [Array.toList_append, Array.toList_replicate, List.replicate_append_replicate]
    congr 1
    omega
  rw [e3] at h2
  exact wpIn_region_any hm (any_in hQ hops _ _ _ _ h2)

set_option linter.unusedSimpArgs false in
set_option maxRecDepth 100000 in
set_option maxHeartbeats 1600000 in
theorem each_c (l : Nat) (A : Option Addr) (c : Nat) (zs : List Nat) (hzl : zs.length ≤ 100000000) (I : Nat → World → Prop) (Ix : World → Prop) (w : World) (h0 : I 0 w) (hrd : ∀ i W, I i W → ∃ b, RdG rPt W b A zs.length (zs.map some))
    (hround : ∀ i q W, zs[i]? = some q → I i W → ∃ fn tmps assign body, (Instr.yield l #[ptV q]).run Tryd.prog W = .ok (.round l fn tmps assign body) W ∧ RoundIn Fence.wide 0 Tryd.prog l fn tmps assign body W (fun e W' => (e = .returned (.bool true) ∧ I (i + 1) W') ∨ (e = .returned (.bool false) ∧ Ix W'))) :
    Calls Tryd.prog 47 #[.slice A zs.length c, .func (.yield l) #[] #[]] w fun e W' => e = .returned (.tuple #[]) ∧ (I zs.length W' ∨ Ix W') := by
  refine calls_args (vl := [.slice A zs.length c, Value.func (.yield l) #[] #[]]) 17 Tryd.func47 rfl Tryd.ntmps47 (by kernel_rfl) (fun a he => ?_)
  have he0 : Env 17 [(0, .slice A zs.length c), (1, Value.func (.yield l) #[] #[])] a := he
  clear he
  have hH := Hp.start w
  refine wp_seq (wp_region_lit ?_)
  refine lW (.slice A zs.length c) he0 rfl (rn_mv rfl (he0.op rfl) w) ?_
  intro a1 he1
  clear he0 a
  refine lW (.int .i64 zs.length) he1 rfl (rn_lenGp rfl (he1.op rfl) w) ?_
  intro a2 he2
  clear he1 a1
  refine lW (.int .i64 0) he2 rfl (rn_mv rfl (he2.op rfl) w) ?_
  intro a3 he3
  clear he2 a2
  refine wpList_nil (then_ok ?_)
  refine wp_block ?_
  refine loop_nat (fun q a W => ∃ k : Nat, q = zs.length - k ∧ k ≤ zs.length ∧ Env 17 [(1, Value.func (.yield l) #[] #[]), (6, .slice A zs.length c), (7, .int .i64 zs.length), (8, .int .i64 k)] a ∧ I k W) zs.length ⟨0, by omega, by omega, he3.mem ⟨rfl, rfl, rfl, rfl, trivial⟩, h0⟩ ?_
  clear he3 hH
  rintro q a2 w2 ⟨k, rfl, hk, he2, hI⟩
  by_cases hkn : k < zs.length
  · skip
    refine wp_seq (wp_region_lit ?_)
    refine lW (.bool true) he2 rfl (rn_lss rfl (he2.op rfl) (he2.op rfl) (decide_eq_true (by omega)) w2) ?_
    intro a4 he4
    clear he2 a2
    refine wpList_nil (then_ok ?_)
    refine wp_seq ?_
    refine wp_cond_true (he4.op rfl) ?_
    refine wp_skip ?_
    refine then_ok ?_
    obtain ⟨x, hx⟩ : ∃ x, zs[k]? = some x := ⟨_, List.getElem?_eq_getElem hkn⟩
    have hc : (zs.map some)[k]? = some (some x) := by rw [List.getElem?_map, hx]; rfl
    obtain ⟨bb, hrd2⟩ := hrd k _ hI
    obtain ⟨oo, eA⟩ := hrd2.base (by omega)
    subst eA
    refine wp_seq ?_
    refine wp_block ?_
    refine wp_seq (wp_region_lit ?_)
    refine lW (.pointer (some ⟨bb, oo + k * 1, none⟩)) he4 rfl (rn_idxGp (i := k) rfl (he4.op rfl) (he4.op rfl) (by omega) (by rw [addr_add]) w2) ?_
    intro a5 he5
    clear he4 a4
    refine lW (.pointer (some ⟨x, 0, none⟩)) he5 rfl (rn_ldPt (i := k) rfl (he5.op rfl) hrd2 rfl hc) ?_
    intro a6 he6
    clear he5 a5
    refine lW (.pointer (some ⟨x, 0, none⟩)) he6 rfl (rn_asg rfl (he6.op rfl) w2) ?_
    intro a7 he7
    clear he6 a6
    refine wpList_nil (then_ok ?_)
    refine wp_seq ?_
    refine (wpIn_wide (n := 1)).1 ?_
    refine wpIn_region_lit ?_
    refine liV (Value.func (.yield l) #[] #[]) he7 rfl rfl rfl (wanted_plain rfl _) (rn_mv rfl (he7.op rfl) _) ?_
    intro a8 he8
    clear he7 a7
    refine liV (.pointer (some ⟨x, 0, none⟩)) he8 rfl rfl rfl (wanted_plain rfl _) (rn_mv rfl (he8.op rfl) _) ?_
    intro a9 he9
    clear he8 a8
    refine liY (R := fun e W9 => (e = .returned (.bool true) ∧ I (k + 1) W9) ∨ (e = .returned (.bool false) ∧ Ix W9)) he9 rfl rfl (wanted_plain rfl _) rfl rfl rfl (hround k x _ hx hI) ?_
    rintro e9 w9 (⟨rfl, hI9⟩ | ⟨rfl, hI9⟩)
    · skip
      refine ⟨_, rfl, ?_⟩
      intro a10 he10
      clear he9 a9
      refine liV (.bool false) he10 rfl rfl rfl (wanted_plain rfl _) (rn_not (b := true) rfl (he10.op rfl) _) ?_
      intro a11 he11
      clear he10 a10
      refine wpListIn_nil ?_
      refine then_ok ?_
      refine wp_cond_false (he11.op rfl) ?_
      refine wp_skip ?_
      refine block_ok ?_
      refine then_ok ?_
      refine wp_region_lit ?_
      refine lW (.int .i64 ((k + 1 : Nat) : Int)) he11 rfl (rn_add1 rfl (he11.op rfl) (he11.op rfl) (by rw [IntWalk.i64_in _ ⟨by omega, by omega⟩]; omega) w9) ?_
      intro a12 he12
      clear he11 a11
      refine lW (.int .i64 ((k + 1 : Nat) : Int)) he12 rfl (rn_mv rfl (he12.op rfl) w9) ?_
      intro a13 he13
      clear he12 a12
      refine wpList_nil (then_ok ?_)
      exact ⟨zs.length - (k + 1), by omega, k + 1, rfl, by omega, he13.mem ⟨rfl, rfl, rfl, rfl, trivial⟩, hI9⟩
    refine ⟨_, rfl, ?_⟩
    intro a14 he14
    clear he9 a9
    refine liV (.bool true) he14 rfl rfl rfl (wanted_plain rfl _) (rn_not (b := false) rfl (he14.op rfl) _) ?_
    intro a15 he15
    clear he14 a14
    refine wpListIn_nil ?_
    refine then_ok ?_
    refine wp_cond_true (he15.op rfl) ?_
    refine wp_ret ?_
    try simp only [Exit.then, Exit.inBlock]
    exact ret_unit rfl he15 ⟨rfl, .inr hI9⟩
  refine wp_seq (wp_region_lit ?_)
  refine lW (.bool false) he2 rfl (rn_lss rfl (he2.op rfl) (he2.op rfl) (decide_eq_false (by omega)) w2) ?_
  intro a16 he16
  clear he2 a2
  refine wpList_nil (then_ok ?_)
  refine wp_seq ?_
  refine wp_cond_false (he16.op rfl) ?_
  refine wp_exit ?_
  simp only [Exit.then, Exit.inBlock, if_true]
  have e9 : k = zs.length := by omega
  subst e9
  exact end_unit rfl he16 ⟨rfl, .inl hI⟩
/-- How a round may end: it goes on, or it returns. -/
def bdPost (K Kx : World → Prop) : Exit → Act → World → Prop
  | .normal, _, w => K w
  | .ret, _, w => Kx w
  | _, _, _ => False
/-- A range over the pages. -/
theorem wp_each {t s : Tmp} {N : Nat} {Fv : List (Nat × Value)} {g : Operand} {assign body : Code} {Q : Exit → Act → World → Prop} {a : Act} {w : World} (A : Option Addr) (c : Nat) (zs : List Nat) (hzl : zs.length ≤ 100000000) (he : EnvD [] N Fv a) (ht : Nat.blt t N = true) (hg : evO Fv g = some (.func (.func 47) #[.slice A zs.length c] #[]))
    (hassign : ∀ (l : Nat) (q : Nat) (W : World) (a0 : Act) (K : Act → World → Prop), EnvD [] N ((t, ptV q) :: Fv) a0 → (∀ a1, EnvD [] N ((s, ptV q) :: (t, ptV q) :: Fv) a1 → K a1 W) → assign.wpIn (Wl l) 0 Tryd.prog (Exit.then K (fun _ _ _ => False)) a0 W)
    (h : ∀ (_ : FuncId) (df l : Nat) (w1 : World) (rc : LoopState → Option Code → Obj), Made [objD l (rc .ready none), dfD df] w w1 → ∃ (J : Nat → Obj → World → Prop) (Jx : Obj → World → Prop),
      J 0 (rc .ready none) w1 ∧ (∀ i x W, J i x W → W.heap[l]? = some x ∧ (∀ y, J i y (W.putObj l y)) ∧ ∃ b, RdG rPt W b A zs.length (zs.map some)) ∧ (∀ x W, Jx x W → W.heap[l]? = some x ∧ ∀ y, Jx y (W.putObj l y)) ∧
      (∀ i q W a1, zs[i]? = some q → J i (rc .busy none) W → EnvD [] N ((s, ptV q) :: (t, ptV q) :: Fv) a1 → body.wpIn (Wl l) 0 Tryd.prog (bdPost (J (i + 1) (rc .busy none)) (Jx (rc .busy none))) a1 W) ∧
      (∀ W a', J zs.length (rc .exhausted none) W → EnvD [markL df] N Fv a' → Q .normal a' W) ∧ (∀ W a', Jx (rc .exhausted (some .ret)) W → EnvD [markL df] N Fv a' → Q .ret a' W)) :
    (Code.rangeFunc g #[t] assign body).wp Tryd.prog Q a w := by
  have hge := he.op hg
  refine wp_rangeF hge (MuLone.run_callFunc_enter Tryd.func47 (by kernel_rfl) rfl) (fun fn df l w1 hM => ?_)
  obtain ⟨J, Jx, h0, hJ, hJx, hbody, hdone, hstop⟩ := h fn df l w1 (fun st pe => .loop (recL fn a.tmps #[t] assign body df st pe)) hM
  have hmark : EnvD [markL df] N Fv { a with defers := markL df :: a.defers } := ⟨he.sz, by rw [show a.defers = [] from he.df], he.ev⟩
  refine (each_c l A c zs hzl (fun i W => J i (.loop (recL fn a.tmps #[t] assign body df .ready none)) W) (fun W => Jx (.loop (recL fn a.tmps #[t] assign body df .done (some .ret))) W) w1 h0 (fun i W hi => (hJ i _ W hi).2.2) (fun i q W hq hi => ?_)).mono ?_
  · obtain ⟨hl, hput, _⟩ := hJ i _ W hi
    refine round_l hl rfl (hassign l q W _ _ ?_ (fun a1 he1 => ⟨rfl, ?_⟩))
    · have he0 := (⟨he.sz, rfl, he.ev⟩ : EnvD [] N Fv { tmps := a.tmps, defers := [] }).put ht (ptV q)
      have ez : ((#[t] : Array Tmp).zip #[ptV q]).foldl (fun t (p, v) => t.setIfInBounds p v) a.tmps = a.tmps.setIfInBounds t (ptV q) := by simp
      rw [ez]
      exact he0
    · refine wpIn_mono (hbody i q _ a1 hq (hput _) he1) (fun e a2 w2 hp => ?_)
      cases e with
      | normal =>
        obtain ⟨hl2, hput2, _⟩ := hJ _ _ _ hp
        exact ⟨_, _, run_endRound none hl2, .inl ⟨rfl, hput2 _⟩⟩
      | ret =>
        obtain ⟨hl2, hput2⟩ := hJx _ _ hp
        exact ⟨_, _, run_endRound (some .ret) hl2, .inr ⟨rfl, hput2 _⟩⟩
      | _ => exact hp.elim
  · rintro e w3 ⟨rfl, hI | hI⟩
    · obtain ⟨hl, hput, _⟩ := hJ _ _ _ hI
      exact ⟨_, .ready, none, rfl, hl, by decide, hdone _ _ (hput _) hmark⟩
    · obtain ⟨hl, hput⟩ := hJx _ _ hI
      refine ⟨_, .done, some .ret, rfl, hl, by decide, wp_ret (hstop _ _ (hput _) hmark)⟩
end Go.Proofs.YtlpjhaghphmbeaaDoor
