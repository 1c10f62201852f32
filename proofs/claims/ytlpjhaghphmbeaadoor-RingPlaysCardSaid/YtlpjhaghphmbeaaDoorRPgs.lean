/-
  The specification's pages as rows of two numbers.
-/
import Derived.Test.YtlpjhaghphmbeaaDoorB1
import Derived.Test.YtlpjhaghphmbeaaDoorSRef
namespace Go.Proofs.YtlpjhaghphmbeaaDoor
open Go.RowKit

/-- Pages as the specification has them. -/
def pgI (P : List Pg) : List (Int × Int) := P.map fun x => ((x.1 : Int), (x.2.length : Int))
def rowG (v : Value) (ps : List (Int × Int)) : Dat where
  P w F := OwnO rPg w F v ps
  fr h hf hn := h.fr hf hn
  up h hs := h.up hs
theorem pgI_len (P : List Pg) : (pgI P).length = P.length := by simp [pgI]
theorem pgI_cons (x : Pg) (P : List Pg) : pgI (x :: P) = ((x.1 : Int), (x.2.length : Int)) :: pgI P := rfl
theorem pgI_snoc (x : Pg) (P : List Pg) : pgI (P ++ [x]) = pgI P ++ [((x.1 : Int), (x.2.length : Int))] := by simp [pgI]
theorem pgI_get {P : List Pg} {i : Nat} {x : Pg} (h : P[i]? = some x) : (pgI P)[i]? = some ((x.1 : Int), (x.2.length : Int)) := by simp [pgI, h]
section
variable {r e w : World} {S0 : FP} {m : Nat} {ps : List Nat} {D : List Dat} {n c : Nat} {zs : List (Int × Int)}
theorem Dt.rdG {A : Option Addr} (h : Dt r e S0 m ps D w) {i : Nat} (hi : D[i]? = some (rowG (.slice A n c) zs)) : ∃ b, RdG rPg w b A n zs ∧ n = zs.length ∧ n ≤ c := by
  obtain ⟨F, hF⟩ := h.get hi
  obtain ⟨b, h1, h2, h3, _⟩ := (show OwnO rPg w F (.slice A n c) zs from hF).rdg
  exact ⟨b, h1, h2, h3⟩
theorem Dt.rdGb {b oo : Nat} (h : Dt r e S0 m ps D w) {i : Nat} (hi : D[i]? = some (rowG (.slice (some ⟨b, oo, none⟩) n c) zs)) : RdG rPg w b (some ⟨b, oo, none⟩) n zs := by
  obtain ⟨b', h1, _, _⟩ := h.rdG hi
  refine ⟨h1.1, fun hn => ?_⟩
  obtain ⟨o', ho⟩ := h1.base hn
  simp only [Option.some.injEq, Addr.mk.injEq, and_true] at ho
  obtain ⟨rfl, rfl⟩ := ho
  exact h1.2 hn
end
section
variable {ρ : Operand → Value} {o : Oper} {x y : Operand} {w : World} {F G : FP} {A B A3 : Option Addr} {n c k m : Nat} {zs : List (Int × Int)}
theorem rn_ldG0 {b off o0 i : Nat} {u : Int × Int} (h : o.op = .load 3 x) (hx : ρ x = .pointer (some ⟨b, off, none⟩)) (hr : RdG rPg w b (some ⟨b, o0, none⟩) n zs) (hoff : off = o0 + i * 2 + 0) (hc : zs[i]? = some u) : (execOp ρ o).run Tryd.prog w = .ok (.value (.int .i64 u.1)) w :=
  rn_loadG1 (R := rPg) hr Tryd.underlying3 h hx hoff hc rfl
theorem rn_ldG1 {b off o0 i : Nat} {u : Int × Int} (h : o.op = .load 3 x) (hx : ρ x = .pointer (some ⟨b, off, none⟩)) (hr : RdG rPg w b (some ⟨b, o0, none⟩) n zs) (hoff : off = o0 + i * 2 + 1) (hc : zs[i]? = some u) : (execOp ρ o).run Tryd.prog w = .ok (.value (.int .i64 u.2)) w :=
  rn_loadG1 (R := rPg) hr Tryd.underlying3 h hx hoff hc rfl
theorem own_Og {base : Nat} {v : Value} (h : w.ownsRow base rPg.ty rPg.sz v n (flatG rPg zs)) : OwnO rPg w (fun k => v.ownBlock = some k) v zs := by
  have hl : zs.length = n := own_len h
  rcases h.2 with ⟨rfl, rfl⟩ | ⟨g, cap, cur, rfl, _, hB, h1, h2, h3, h4⟩
  · exact .inl ⟨none, rfl, List.eq_nil_of_length_eq_zero hl⟩
  · exact .inr ⟨g, 0, cap, cur, by rw [hl], rfl, hB, by omega, h2, by rw [h3, Nat.zero_add], by rw [List.drop_zero, hl]; exact h4⟩
/-- Pages copied. -/
theorem pg_app0 {b : Nat} (hr : RdG rPg w b A m zs) (hm : m ≤ 1000000)
    (h : o.op = .call { callee := .builtin .append, args := #[.const (.slice none 0 0), x], argTypes := #[31, 31] }) (hc : ∀ v, ρ (.const v) = v) (hx : ρ x = .slice A m c) :
    ∃ v' w', (execOp ρ o).run Tryd.prog w = .ok (.value v') w' ∧ ∃ A' c', v' = .slice A' zs.length c' ∧ Made [rowG (.slice A' zs.length c') zs] w w' := by
  obtain ⟨v', w', hrun, ho, hg, hor⟩ := run_appendO (R := rPg) w w.heap.size o.type (.slice none 0 0) 0 [] (World.ownsRow_nil _ _ _ _) b A m c zs hr (by omega) (Nat.le_refl _)
  rw [List.nil_append, Nat.zero_add] at ho
  have hO := own_Og ho
  obtain ⟨A', c', rfl, _⟩ := hO.shape
  refine ⟨_, w', ?_, A', c', rfl, Fr.grown (Fr.refl _ _) hg (fun k hk => by cases hk), _, SepL.one (d := rowG _ _) hO, fun k hk => .inr ⟨own_blk ho k hk, own_lt ho k hk⟩⟩
  unfold execOp
  have e : (Builtin.append_ #[31, 31] o.type #[.slice none 0 0, .slice A m c]).run Tryd.prog w = .ok (.slice A' zs.length c') w' := hrun
  simp only [h, resolve, invoke, builtin, Sem.run_bind, Sem.run_pure, Result.andThen_ok, List.map_toArray, List.map_cons, List.map_nil, hc, hx, e]
theorem app_g {b cx M : Nat} {u : Int × Int} (hrow : (rowG (.slice A n c) zs).P w F) (hr : RdG rPg w b B 1 [u]) (hM : (zs ++ [u]).length = M) (hlen : M ≤ 10000000)
    (h : o.op = .call { callee := .builtin .append, args := #[x, y], argTypes := #[31, 31] }) (hx : ρ x = .slice A n c) (hy : ρ y = .slice B 1 cx) :
    ∃ v' w', (execOp ρ o).run Tryd.prog w = .ok (.value v') w' ∧ ∃ A' c', v' = .slice A' M c' ∧ Turned [rowG (.slice A' M c') (zs ++ [u])] F w w' := by
  have h1' : OwnO rPg w F (.slice A n c) zs := hrow
  obtain ⟨v', w', hrun, ⟨A', c', e1, _⟩, hf, F', hO, hF'⟩ := rg_append (R := rPg) (ρ := ρ) (o := o) (x := x) (y := y) h1' hr (by decide) (by simp at hM; omega) h hx hy
  rw [hM] at e1
  subst e1
  exact ⟨_, w', hrun, A', c', rfl, hf, F', SepL.one (d := rowG _ _) hO, hF'⟩
theorem slg_cut (_ : k ≤ n) : ∃ A2, sliced A k n c 2 = .slice A2 (n - k) (c - k) := ⟨_, rfl⟩
theorem slg_cuth : ∃ A2, sliced A 0 k c 2 = .slice A2 k c := ⟨_, rfl⟩
theorem rowg_cutl (e : sliced A k n c 2 = .slice A3 m (c - k)) (hk : k ≤ n) (h : SepL [rowG (.slice A n c) zs] w G) : SepL [rowG (.slice A3 m (c - k)) (zs.drop k)] w G := by
  obtain ⟨A', e', h'⟩ := OwnO.cutl (R := rPg) (show OwnO rPg w G _ _ from h.the) hk
  have e2 : sliced A k n c 2 = .slice A' (n - k) (c - k) := e'
  rw [← e, e2]
  exact SepL.one (d := rowG _ _) h'
theorem rowg_cuth (e : sliced A 0 k c 2 = .slice A3 m c) (hk : k ≤ n) (h : SepL [rowG (.slice A n c) zs] w G) : SepL [rowG (.slice A3 m c) (zs.take k)] w G := by
  obtain ⟨A', e', h'⟩ := OwnO.cuth (R := rPg) (show OwnO rPg w G _ _ from h.the) hk
  have e2 : sliced A 0 k c 2 = .slice A' k c := e'
  rw [← e, e2]
  exact SepL.one (d := rowG _ _) h'
end
/-- One of two cells that are stored. -/
theorem lay2 {cur : Array Value} {i : Nat} {a b v : Value} (ha : cur[i]? = some a) (hb : cur[i + 1]? = some b) : lay cur i #[v] = lay cur i #[v, b] ∧ lay cur (i + 1) #[v] = lay cur i #[a, v] := by
  have ha' : cur.toList[i]? = some a := by simpa using ha
  have hb' : cur.toList[i + 1]? = some b := by simpa using hb
  obtain ⟨h1, h2⟩ := List.getElem?_eq_some_iff.1 ha'
  obtain ⟨h3, h4⟩ := List.getElem?_eq_some_iff.1 hb'
  constructor
  · unfold lay
    have e : cur.toList.drop (i + 1) = b :: cur.toList.drop (i + 2) := by rw [List.drop_eq_getElem_cons h3, h4]
    simp [e]
  · unfold lay
    have e : cur.toList.take (i + 1) = cur.toList.take i ++ [a] := by rw [List.take_succ_eq_append_getElem h1, h2]
    simp [e]
section
variable {DF : List Deferred} {ops : Array Oper} {Q : Exit → Act → World → Prop} {a : Act} {w : World} {rest : List Oper} {o : Oper} {N i n c g off : Nat} {Fr_ : List (Nat × Value)} {F : FP} {zs : List (Int × Int)} {u : Int × Int} {v : Int} {x y : Operand}
theorem lPg (j : Nat) (u' : Int × Int) (hu : (j = 0 ∧ u' = (v, u.2)) ∨ (j = 1 ∧ u' = (u.1, v))) (hrow : (rowG (.slice (some ⟨g, off, none⟩) n c) zs).P w F) (hk : i < n) (hc : zs[i]? = some u) (he : EnvD DF N Fr_ a) (hd : o.dst = none) (hw : Region.wanted o (yielded ops a.tmps) = true)
    (ho : o.op = .store 3 x y) (hx : evO Fr_ x = some (.pointer (some ⟨g, off + i * 2 + j, none⟩))) (hy : evO Fr_ y = some (.int .i64 v))
    (next : ∀ w' a', Turned [rowG (.slice (some ⟨g, off, none⟩) n c) (zs.set i u')] F w w' → EnvD DF N Fr_ a' → wpList Tryd.prog ops Q rest a' w') : wpList Tryd.prog ops Q (o :: rest) a w :=
  wpList_step fun K hK => by
    rw [if_pos hw]
    have h1' : OwnO rPg w F (.slice (some ⟨g, off, none⟩) n c) zs := hrow
    obtain ⟨b, hr, _⟩ := h1'.rdg
    obtain ⟨o', ho'⟩ := hr.base (by omega)
    simp only [Option.some.injEq, Addr.mk.injEq, and_true] at ho'
    obtain ⟨rfl, rfl⟩ := ho'
    obtain ⟨g', off', cur, e1, hg, hB, hfit, hset⟩ := h1'.at_ hk
    simp only [Option.some.injEq, Addr.mk.injEq, and_true] at e1
    obtain ⟨rfl, rfl⟩ := e1
    have hfit' : off + i * 2 + 2 ≤ cur.size := hfit
    have h0 : w.cell? ⟨g, off + i * 2 + 0, none⟩ = some (.int .i64 u.1) := (hr.cells hc) 0 (.int .i64 u.1) rfl
    have h1 : w.cell? ⟨g, off + i * 2 + 1, none⟩ = some (.int .i64 u.2) := (hr.cells hc) 1 (.int .i64 u.2) rfl
    rw [hB.cell] at h0 h1
    obtain ⟨l0, l1⟩ := lay2 (v := .int .i64 v) h0 h1
    have hl : lay cur (off + i * 2 + j) #[.int .i64 v] = lay cur (off + i * 2) (rPg.ls u').toArray := by
      rcases hu with ⟨rfl, rfl⟩ | ⟨rfl, rfl⟩
      · exact l0
      · exact l1
    refine storeV_does ho (he.op hx) (he.op hy) (news := #[.int .i64 v]) rfl hB (by kernel_rfl) (by rcases hu with ⟨rfl, _⟩ | ⟨rfl, _⟩ <;> (simp; omega)) (by simp; rfl) (fun w' hB' hf _ => hK _ _ ?_)
    rw [hd]
    rw [hl] at hB'
    exact next w' _ ⟨hf.weak (fun j _ hj => by subst hj; exact hg), F, SepL.one (d := rowG _ _) (hset w' u' hB'), fun j hj => .inl hj⟩ (he.put0 _)
end
section
variable {ρ : Operand → Value} {o : Oper} {x y z : Operand} {w : World} {G : FP} {A : Option Addr} {n c k m n9 : Nat} {L : List Ln}
theorem rg_cutlh {α : Type} {R : Rec α} {v : Value} (h : o.op = .slice R.sl x (some y) (some z) none) (hx : ρ x = .slice A n c) (hy : ρ y = .int .i64 k) (hz : ρ z = .int .i64 m) (hk : k ≤ m) (hm : m ≤ c) (_ : m ≤ 9000000000) (hv : sliced A k m c R.sz = v) (w : World) : (execOp ρ o).run Tryd.prog w = .ok (.value v) w := by
  subst hv
  have e : (Instr.sliceAt R.sl (.slice A n c) (some (.int .i64 k)) (some (.int .i64 m)) none).run Tryd.prog w = .ok (sliced A k m c R.sz) w := by
    rw [run_sliceAt_slice w _ _ _ _ _ undG, run_slice_lh w _ A n c undG .i64 .i64 k m (by omega) (by omega) (by omega), elemG, szG]
    simp
  unfold execOp
  simp only [h, hx, Option.map_some, Option.map_none, hy, hz, e, Sem.run_bind, Sem.run_pure, Result.andThen_ok]
theorem lns_mid (h : (rdD (.slice A L.length c) L).P w G) (hk : k + n9 ≤ L.length) : ∃ A2, sliced A k (k + n9) c 2 = .slice A2 ((L.drop k).take n9).length (c - k) ∧ LnsF w G (.slice A2 ((L.drop k).take n9).length (c - k)) ((L.drop k).take n9) := by
  have e1 : sliced A k L.length c 2 = .slice (if c = k then A else A.map (·.add (k * 2))) (L.drop k).length (c - k) := by simp [sliced]
  have h1 := rd_cutl e1 (by omega) (SepL.one h)
  have e2 : sliced (if c = k then A else A.map (·.add (k * 2))) 0 n9 (c - k) 2 = .slice (if c = k then A else A.map (·.add (k * 2))) ((L.drop k).take n9).length (c - k) := by
    have hl : ((L.drop k).take n9).length = n9 := by rw [List.length_take, List.length_drop]; omega
    rw [hl]
    unfold sliced
    simp only [Nat.zero_mul, Nat.sub_zero]
    congr 1
    split
    · rfl
    · cases h9 : (if c = k then A else A.map (·.add (k * 2))) with
      | none => rfl
      | some a => simp [Addr.add]
  have h2 := rd_cuth e2 (by rw [List.length_drop]; omega) h1
  refine ⟨_, ?_, h2.the⟩
  have hl : ((L.drop k).take n9).length = n9 := by rw [List.length_take, List.length_drop]; omega
  rw [hl]
  simp [sliced]
end
section
variable {r e w : World} {S0 : FP} {m : Nat} {ps : List Nat} {D : List Dat} {n c : Nat} {xs : List LV}
theorem Dt.rdL {A : Option Addr} (h : Dt r e S0 m ps D w) {i : Nat} (hi : D[i]? = some (rowD (.slice A n c) xs)) : ∃ b, RdG rL w b A n xs ∧ n = xs.length ∧ n ≤ c := by
  obtain ⟨F, hF⟩ := h.get hi
  obtain ⟨b', h1, h2, h3, _⟩ := (show OwnO rL w F (.slice A n c) xs from hF).rdg
  exact ⟨b', h1, h2, h3⟩
end
section
variable {md : Region.Mode} {ops : Array Oper} {Q : Exit → Act → World → Prop} {a : Act} {w : World} {S : World → Prop} {fuel : Nat} {listed : Array Bool} {o : Oper} {N i j n c g off : Nat} {Fr_ : List (Nat × Value)} {F : FP} {xs : List LV} {u : LV} {x y : Operand}
/-- A line stored into a row, where it alone may come up. -/
theorem hRowR (hrow : (rowD (.slice (some ⟨g, off, none⟩) n c) xs).P w F) (hk : i < n) (he : Env N Fr_ a) (hr : Region.ready md ops listed = [j]) (hoi : ops[j]? = some o) (hd : o.dst = none) (hw : Region.wanted o (yielded ops a.tmps) = true)
    (ho : o.op = .store 36 x y) (hx : evO Fr_ x = some (.pointer (some ⟨g, off + i * 2, none⟩))) (hy : evO Fr_ y = some (.agg #[u.v, .bool u.s]))
    (next : ∀ w' a', Turned [rowD (.slice (some ⟨g, off, none⟩) n c) (xs.set i u)] F w w' → Env N Fr_ a' → S w' ∧ wpAnyH Tryd.prog md ops Q S fuel (listed.setIfInBounds j true) a' w') : wpAnyH Tryd.prog md ops Q S (fuel + 1) listed a w :=
  allH hr hoi hw (fun K hK => by
    have h1' : OwnO rL w F (.slice (some ⟨g, off, none⟩) n c) xs := hrow
    obtain ⟨g', off', cur, e1, hg, hB, hfit, hset⟩ := h1'.at_ hk
    simp only [Option.some.injEq, Addr.mk.injEq, and_true] at e1
    obtain ⟨rfl, rfl⟩ := e1
    refine storeV_does ho (he.op hx) (he.op hy) (news := (rL.ls u).toArray) rfl hB (by kernel_rfl) hfit (fun v hv => rL.one u v (by simpa using hv)) (fun w' hB' hf _ => ?_)
    have h9 := next w' (a.put none undef) ⟨hf.weak (fun j _ hj => by subst hj; exact hg), F, SepL.one (d := rowD _ _) (hset w' u hB'), fun j hj => .inl hj⟩ (he.put0 _)
    rw [hd]
    exact hK _ _ h9.1 h9.2)
end
end Go.Proofs.YtlpjhaghphmbeaaDoor
