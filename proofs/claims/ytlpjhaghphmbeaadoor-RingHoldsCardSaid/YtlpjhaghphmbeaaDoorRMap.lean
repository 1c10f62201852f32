/-
  A map from numbers to lines, as a datum.
-/
import Derived.Test.YtlpjhaghphmbeaaDoorRRead
import Derived.Maps.Own
import Derived.Maps.Views
namespace Go.Proofs.YtlpjhaghphmbeaaDoor
open Go.RowKit
open Go.Maps (Keyed)

section
variable {P : Program} {DF : List Deferred} {ops : Array Oper} {Q : Exit → Act → World → Prop} {a : Act} {w : World} {rest : List Oper} {o : Oper} {N : Nat} {F : List (Nat × Value)}
/-- An operation that gives no value, and turns the world. -/
theorem lEs0 {R : Value → World → Prop} (he : EnvD DF N F a) (hd : o.dst = none) (hw : Region.wanted o (yielded ops a.tmps) = true)
    (hrun : ∃ v' w', (execOp a.eval o).run P w = .ok .skip w' ∧ R v' w') (next : ∀ v' w', R v' w' → ∀ a', EnvD DF N F a' → wpList P ops Q rest a' w') : wpList P ops Q (o :: rest) a w := by
  obtain ⟨v', w', h1, h2⟩ := hrun
  exact wpList_step fun K hK => by
    rw [if_pos hw]
    unfold Oper.wp
    rw [h1]
    exact hK _ _ (by rw [hd]; exact next _ _ h2 _ (he.put0 _))
end
/-- An element reads as itself. -/
def asIs (v : Value) : Option (DataW Value × List MemPlace) := some (.held v, [])
abbrev lnV (va : Int → Option Addr) (vc : Int → Nat) (f : Int → List Ce) (i : Int) : Value := .agg #[.slice (va i) (f i).length (vc i), .bool false]
abbrev wf64 (i : Int) : Prop := (Lit.int .i64 i).wf = true
/-- A map at b, of at most n numbers: at i the line f i, where va and vc say. -/
def mapD (b n : Nat) (va : Int → Option Addr) (vc : Int → Nat) (f : Int → List Ce) : Dat where
  P w F := F b ∧ ∃ (D : DataW Value) (G : FP), w.ownsMap Tryd.prog 3 asIs b n D ∧ (∀ i, wf64 i → D.atKey (.int .i64 i) (.held (.agg #[.slice none 0 0, .bool false])) = .held (lnV va vc f i)) ∧ (∀ i, SlF w G (.slice (va i) (f i).length (vc i)) (f i)) ∧ (∀ k, G k → F k) ∧ ¬ G b
  fr := fun ⟨h1, D, G, h2, h3, h4, h5, h6⟩ hf hn => ⟨h1, D, G, by
    obtain ⟨es, clock, hb, hr⟩ := h2
    exact ⟨es, clock, (hf.block b (Array.getElem?_eq_some_iff.1 hb).1 (hn b h1)).trans hb, hr⟩, h3, fun i => (h4 i).fr hf (fun k hk => hn k (h5 k hk)), h5, h6⟩
  up := fun ⟨h1, D, G, h2, h3, h4, h5, h6⟩ hs => ⟨hs b h1, D, G, h2, h3, h4, fun k hk => hs k (h5 k hk), h6⟩
section
variable {b n : Nat} {va : Int → Option Addr} {vc : Int → Nat} {f : Int → List Ce} {w w' : World} {F : FP} {i : Int} {ρ : Operand → Value} {o : Oper} {x y z : Operand}
theorem mapD_sl (h : (mapD b n va vc f).P w F) (i : Int) : SlC w (.slice (va i) (f i).length (vc i)) (f i) := by
  obtain ⟨_, D, G, _, _, h4, _⟩ := h
  exact (h4 i).sl
theorem mk_map (h : o.op = .makeMap 68 none) (w : World) :
    ∃ v' w', (execOp ρ o).run Tryd.prog w = .ok (.value v') w' ∧ ∃ b, v' = .map (some b) ∧ Made [mapD b 0 (fun _ => none) (fun _ => 0) (fun _ => [])] w w' := by
  refine ⟨_, w.alloc (.map #[] 0), ?_, w.heap.size, rfl, (Fr.refl _ _).alloc _, fun k => k = w.heap.size, SepL.one ⟨rfl, .map [], fun _ => False, World.ownsMap_made w _ _ _, fun i _ => rfl, fun i => ⟨none, 0, 0, rfl, Nat.le_refl _, RdC.nil _ _ _, fun h => absurd h (by simp)⟩, fun _ h => h.elim, fun h => h⟩, fun k hk => .inr ⟨Nat.le_of_eq hk.symm, by subst hk; simp⟩⟩
  unfold execOp
  simp only [h, Option.map_none, run_makeMap, Sem.run_bind, Sem.run_pure, Result.andThen_ok]
theorem look_map (h : o.op = .lookup 68 x y false) (hx : ρ x = .map (some b)) (hy : ρ y = .int .i64 i) (hm : (mapD b n va vc f).P w F) (hi : wf64 i) : (execOp ρ o).run Tryd.prog w = .ok (.value (lnV va vc f i)) w := by
  obtain ⟨_, D, G, h2, h3, _⟩ := hm
  have hz : (zeroValue 36).run Tryd.prog w = .ok (.agg #[.slice none 0 0, .bool false]) w := by kernel_rfl
  obtain ⟨v, ps, hrun, hv⟩ := h2.lookup (Maps.int_keyed Tryd.underlying3) Tryd.underlying68 hz (zd := .held _) (zp := []) rfl (Maps.keyOf_int_mk Tryd.underlying3 hi)
  rw [h3 i hi] at hv
  simp only [asIs, Option.some.injEq, Prod.mk.injEq, DataW.held.injEq] at hv
  obtain ⟨rfl, _⟩ := hv
  unfold execOp
  simp only [h, hx, hy, hrun, Sem.run_bind, Sem.run_pure, Result.andThen_ok]
theorem look_mapM (h : o.op = .lookup 68 x y false) (hx : ρ x = .map (some b)) (hy : ρ y = .int .i64 i) (hm : (mapD b n va vc f).P w F) (hi : wf64 i) : ∃ v' w', (execOp ρ o).run Tryd.prog w = .ok (.value v') w' ∧ v' = lnV va vc f i ∧ Made [] w w' :=
  ⟨_, w, look_map h hx hy hm hi, rfl, Turned.nil (Fr.refl _ _)⟩
/-- f, but at i it is u. -/
def setF {α : Type} (f : Int → α) (i : Int) (u : α) : Int → α := fun j => if j = i then u else f j
theorem setF_same {α : Type} (f : Int → α) (i : Int) (u : α) : setF f i u i = u := if_pos rfl
theorem setF_other {α : Type} (f : Int → α) {i j : Int} (u : α) (h : j ≠ i) : setF f i u j = f j := if_neg h
theorem upd_map {A : Option Addr} {c : Nat} {l : List Ce} (h : o.op = .mapUpdate 68 x y z) (hx : ρ x = .map (some b)) (hy : ρ y = .int .i64 i) (hz : ρ z = .agg #[.slice A l.length c, .bool false]) (hs : SepL [mapD b n va vc f, cellsD (.slice A l.length c) l] w F) (hi : wf64 i) (hn : n ≤ 1000000) :
    ∃ v' w', (execOp ρ o).run Tryd.prog w = .ok .skip w' ∧ v' = undef ∧ Turned [mapD b (n + 1) (setF va i A) (setF vc i c) (setF f i l)] F w w' := by
  obtain ⟨U, V, ⟨k1, D, G, h2, h3, h4, h5, h6⟩, k2, k3, k4, k5⟩ := hs
  have hl := cells_f k2.the
  obtain ⟨w', hrun, r1, r2⟩ := h2.update (Maps.int_keyed Tryd.underlying3) Tryd.underlying68 (Nat.lt_of_le_of_lt hn (by decide)) (val := .agg #[.slice A l.length c, .bool false]) (Maps.keyOf_int_mk Tryd.underlying3 hi) (d := .held _) (ps := []) rfl
  have hf : Fr (fun k => k = b) w w' := Fr.grown (Fr.refl _ _) r2 (fun k hk => .inl (Option.some.inj hk).symm)
  have hD : Maps.IsMap D := by obtain ⟨es, _, _, _, _, e⟩ := h2; exact ⟨_, e⟩
  refine ⟨undef, w', ?_, rfl, hf.weak (fun k _ hk => by subst hk; exact k4 _ k1), F, SepL.one ⟨k4 _ k1, _, fun k => G k ∨ V k, r1, fun j hj => ?_, fun j => ?_, fun k hk => hk.elim (fun h => k4 k (h5 k h)) (k5 k), fun hk => hk.elim h6 (k3 b k1)⟩, fun k hk => .inl hk⟩
  · unfold execOp
    simp only [h, hx, hy, hz, hrun, Sem.run_bind, Sem.run_pure, Result.andThen_ok]
  · by_cases e : j = i
    · subst e
      rw [Maps.atKey_put_same hD (Maps.int_keyed Tryd.underlying3 |>.key (Maps.keyOf_int_mk Tryd.underlying3 hi))]
      simp only [lnV, setF_same]
    · rw [Maps.atKey_put_other (fun h => e (by simpa using h)), h3 j hj]
      simp only [lnV, setF_other _ _ e]
  · by_cases e : j = i
    · subst e
      simp only [setF_same]
      exact (hl.fr hf (fun k hk hb => k3 k (by subst hb; exact k1) hk)).up (fun k hk => .inr hk)
    · simp only [setF_other _ _ e]
      exact ((h4 j).fr hf (fun k hk hb => h6 (by subst hb; exact hk))).up (fun k hk => .inl hk)
end
end Go.Proofs.YtlpjhaghphmbeaaDoor
