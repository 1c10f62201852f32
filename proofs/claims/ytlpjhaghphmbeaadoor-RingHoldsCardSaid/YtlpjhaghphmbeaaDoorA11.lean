/-
  Single operations of layer 7: the three struct types, slices of lines and of calls, small integers.
  Pages: what they hold, as a datum; steps that turn their rows of lines.
  Package sheet.
-/
import Derived.Test.YtlpjhaghphmbeaaDoorA10
namespace Go.Proofs.YtlpjhaghphmbeaaDoor
open Go.RowKit

section
variable {ρ : Operand → Value} {o : Oper} {x y z u : Operand}
theorem rn_boxS {A0 : Option Addr} {n0 c0 : Nat} {i1 : Int} {i2 : Int} (h : o.op = .box 108 x) (hx : ρ x = .agg #[.slice A0 n0 c0, .int .i64 i1, .int .i64 i2]) (w : World) : (execOp ρ o).run Tryd.prog w = .ok (.value (.pointer (some ⟨w.heap.size, 0, none⟩))) (w.alloc (.cells #[.slice A0 n0 c0, .int .i64 i1, .int .i64 i2] 108)) := by
  unfold execOp
  simp only [h, hx]
  kernel_rfl
theorem rn_faS0 {g off : Nat} {p : Value} (h : o.op = .fieldAddr 108 x 0) (hx : ρ x = .pointer (some ⟨g, off, none⟩)) (hp : .pointer (some ⟨g, off + 0, none⟩) = p) (w : World) : (execOp ρ o).run Tryd.prog w = .ok (.value p) w := by
  subst hp
  unfold execOp
  simp only [h, hx]
  kernel_rfl
theorem rn_faS1 {g off : Nat} {p : Value} (h : o.op = .fieldAddr 108 x 1) (hx : ρ x = .pointer (some ⟨g, off, none⟩)) (hp : .pointer (some ⟨g, off + 1, none⟩) = p) (w : World) : (execOp ρ o).run Tryd.prog w = .ok (.value p) w := by
  subst hp
  unfold execOp
  simp only [h, hx]
  kernel_rfl
theorem rn_faS2 {g off : Nat} {p : Value} (h : o.op = .fieldAddr 108 x 2) (hx : ρ x = .pointer (some ⟨g, off, none⟩)) (hp : .pointer (some ⟨g, off + 2, none⟩) = p) (w : World) : (execOp ρ o).run Tryd.prog w = .ok (.value p) w := by
  subst hp
  unfold execOp
  simp only [h, hx]
  kernel_rfl
theorem rn_bS1 {i1_0 : Int} (h : o.op = .build 108 #[(1, x)]) (hx : ρ x = .int .i64 i1_0) (w : World) : (execOp ρ o).run Tryd.prog w = .ok (.value (.agg #[.slice none 0 0, .int .i64 i1_0, .int .i64 0])) w := by
  unfold execOp
  simp only [h, List.map_toArray, List.map_cons, List.map_nil, hx]
  kernel_rfl
theorem rn_bS012 {A0_0 : Option Addr} {n0_0 c0_0 : Nat} {i1_0 : Int} {i2_0 : Int} (h : o.op = .build 108 #[(0, x), (1, y), (2, z)]) (hx : ρ x = .slice A0_0 n0_0 c0_0) (hy : ρ y = .int .i64 i1_0) (hz : ρ z = .int .i64 i2_0) (w : World) : (execOp ρ o).run Tryd.prog w = .ok (.value (.agg #[.slice A0_0 n0_0 c0_0, .int .i64 i1_0, .int .i64 i2_0])) w := by
  unfold execOp
  simp only [h, List.map_toArray, List.map_cons, List.map_nil, hx, hy, hz]
  kernel_rfl
end
section
variable {ρ : Operand → Value} {o : Oper} {x y z u : Operand}
end
section
variable {ρ : Operand → Value} {o : Oper} {x y z u : Operand}
end
section
variable {ρ : Operand → Value} {o : Oper} {x y : Operand}
theorem rn_lenL {A : Option Addr} {n c : Nat} (h : o.op = .call { callee := .builtin .len, args := #[x], argTypes := #[30] }) (hv : ρ x = .slice A n c) (w : World) : (execOp ρ o).run Tryd.prog w = .ok (.value (.int .i64 n)) w := by
  obtain ⟨dst, op, ty, pos, after, guard⟩ := o
  simp only at h
  subst h
  go_simp
theorem rn_idxL {A : Addr} {n c i : Nat} {p : Value} (h : o.op = .indexAddr 30 x y) (hx : ρ x = .slice (some A) n c) (hy : ρ y = .int .i64 i) (hi : i < n) (hp : .pointer (some (A.add (i * 2))) = p) (w : World) : (execOp ρ o).run Tryd.prog w = .ok (.value p) w := by
  subst hp
  obtain ⟨dst, op, ty, pos, after, guard⟩ := o
  simp only at h
  subst h
  go_simp
theorem run_loadLs (w : World) {b o : Nat} {v : Value} (hc : w.cell? ⟨b, o, none⟩ = some v) : (Instr.loadAt 30 (.pointer (some ⟨b, o, none⟩))).run Tryd.prog w = .ok v w := by
  have hn : (isAgg 30).run Tryd.prog w = .ok false w := by simp [isAgg, run_underlying Tryd.underlying30]
  simp only [Instr.loadAt, Instr.sureAddr, loadVar, Sem.run_bind, Sem.run_pure, Result.andThen_ok, hn]
  rw [if_neg (by decide), run_load, hc]
theorem rn_ldLs {g off : Nat} {t : TypeId} {cs : Array Value} {v : Value} {w : World} (h : o.op = .load 30 x) (hx : ρ x = .pointer (some ⟨g, off, none⟩)) (hB : Blk w g t cs) (hv : cs[off]? = some v) :
    (execOp ρ o).run Tryd.prog w = .ok (.value v) w := by
  unfold execOp
  simp only [h, hx, run_loadLs w ((hB.cell off).trans hv), Sem.run_bind, Sem.run_pure, Result.andThen_ok]
end
section
variable {ρ : Operand → Value} {o : Oper} {x y : Operand}
end
section
variable {ρ : Operand → Value} {o : Oper} {x y : Operand}
theorem rn_nilck {a : Addr} (h : o.op = .nilCheck x) (hx : ρ x = .pointer (some a)) (w : World) : (execOp ρ o).run Tryd.prog w = .ok (.value (.pointer (some a))) w := by
  unfold execOp
  simp only [h, hx, Sem.run_pure]
theorem rn_eqP {a : Option Addr} {b : Bool} (h : o.op = .binOp .eql 99 x (.const (.pointer none)) 99) (hx : ρ x = .pointer a) (hc : ∀ v, ρ (.const v) = v) (hb : a.isNone = b) (w : World) : (execOp ρ o).run Tryd.prog w = .ok (.value (.bool b)) w := by
  subst hb
  unfold execOp
  simp only [h, hx, hc]
  cases a <;> kernel_rfl
theorem rn_eqP1 {p : Addr} (h : o.op = .binOp .eql 99 x (.const (.pointer none)) 99) (hx : ρ x = .pointer (some p)) (hc : ∀ v, ρ (.const v) = v) (w : World) : (execOp ρ o).run Tryd.prog w = .ok (.value (.bool false)) w := rn_eqP h hx hc rfl w
theorem rn_ls8 {i j : Int} {b : Bool} (h : o.op = .binOp .lss 5 x y 5) (hx : ρ x = .int .u8 i) (hy : ρ y = .int .u8 j) (hb : decide (i < j) = b) (w : World) : (execOp ρ o).run Tryd.prog w = .ok (.value (.bool b)) w := by
  subst hb
  obtain ⟨dst, op, ty, pos, after, guard⟩ := o
  simp only at h
  subst h
  go_simp
theorem rn_eq8 {i j : Int} {b : Bool} (h : o.op = .binOp .eql 5 x y 5) (hx : ρ x = .int .u8 i) (hy : ρ y = .int .u8 j) (hb : (i == j) = b) (w : World) : (execOp ρ o).run Tryd.prog w = .ok (.value (.bool b)) w := by
  subst hb
  obtain ⟨dst, op, ty, pos, after, guard⟩ := o
  simp only at h
  subst h
  go_simp
theorem rn_ls16 {i j : Int} {b : Bool} (h : o.op = .binOp .lss 49 x y 49) (hx : ρ x = .int .u16 i) (hy : ρ y = .int .u16 j) (hb : decide (i < j) = b) (w : World) : (execOp ρ o).run Tryd.prog w = .ok (.value (.bool b)) w := by
  subst hb
  obtain ⟨dst, op, ty, pos, after, guard⟩ := o
  simp only at h
  subst h
  go_simp
theorem rn_gt16 {i j : Int} {b : Bool} (h : o.op = .binOp .gtr 49 x y 49) (hx : ρ x = .int .u16 i) (hy : ρ y = .int .u16 j) (hb : decide (j < i) = b) (w : World) : (execOp ρ o).run Tryd.prog w = .ok (.value (.bool b)) w := by
  subst hb
  obtain ⟨dst, op, ty, pos, after, guard⟩ := o
  simp only at h
  subst h
  go_simp
theorem rn_cv16I {i r : Int} (h : o.op = .convert 49 3 x) (hx : ρ x = .int .u16 i) (hr : IntKind.i64.wrap i = r) (w : World) : (execOp ρ o).run Tryd.prog w = .ok (.value (.int .i64 r)) w := by
  subst hr
  obtain ⟨dst, op, ty, pos, after, guard⟩ := o
  simp only at h
  subst h
  go_simp
theorem rn_cvI32 {i r : Int} (h : o.op = .convert 3 21 x) (hx : ρ x = .int .i64 i) (hr : IntKind.i32.wrap i = r) (w : World) : (execOp ρ o).run Tryd.prog w = .ok (.value (.int .i32 r)) w := by
  subst hr
  obtain ⟨dst, op, ty, pos, after, guard⟩ := o
  simp only at h
  subst h
  go_simp
theorem rn_remI {i j r : Int} (h : o.op = .binOp .rem 3 x y 3) (hx : ρ x = .int .i64 i) (hy : ρ y = .int .i64 j) (hj : j ≠ 0) (hr : i.tmod j = r) (w : World) : (execOp ρ o).run Tryd.prog w = .ok (.value (.int .i64 r)) w := by
  subst hr
  have hu := Tryd.underlying3
  obtain ⟨dst, op, ty, pos, after, guard⟩ := o
  simp only at h
  subst h
  simp [execOp, hx, hy, eqGuard_rem, binOp_rem, Op.intDiv, hj]
theorem rn_rem8 {i j r : Int} (h : o.op = .binOp .rem 5 x y 5) (hx : ρ x = .int .u8 i) (hy : ρ y = .int .u8 j) (hj : j ≠ 0) (hr : i.tmod j = r) (w : World) : (execOp ρ o).run Tryd.prog w = .ok (.value (.int .u8 r)) w := by
  subst hr
  have hu := Tryd.underlying5
  obtain ⟨dst, op, ty, pos, after, guard⟩ := o
  simp only at h
  subst h
  simp [execOp, hx, hy, eqGuard_rem, binOp_rem, Op.intDiv, hj]
theorem rn_quo8 {i j r : Int} (h : o.op = .binOp .quo 5 x y 5) (hx : ρ x = .int .u8 i) (hy : ρ y = .int .u8 j) (hj : j ≠ 0) (hr : IntKind.u8.wrap (i.tdiv j) = r) (w : World) : (execOp ρ o).run Tryd.prog w = .ok (.value (.int .u8 r)) w := by
  subst hr
  have hu := Tryd.underlying5
  obtain ⟨dst, op, ty, pos, after, guard⟩ := o
  simp only at h
  subst h
  simp [execOp, hx, hy, eqGuard_quo, binOp_quo, Op.intDiv, hj]
theorem rn_lenB8 {A : Option Addr} {n c : Nat} (h : o.op = .call { callee := .builtin .len, args := #[x], argTypes := #[67] }) (hv : ρ x = .slice A n c) (w : World) : (execOp ρ o).run Tryd.prog w = .ok (.value (.int .i64 n)) w := by
  obtain ⟨dst, op, ty, pos, after, guard⟩ := o
  simp only at h
  subst h
  go_simp
theorem rn_idxB8 {A : Addr} {n c i : Nat} {p : Value} (h : o.op = .indexAddr 67 x y) (hx : ρ x = .slice (some A) n c) (hy : ρ y = .int .i64 i) (hi : i < n) (hp : .pointer (some (A.add (i * 1))) = p) (w : World) : (execOp ρ o).run Tryd.prog w = .ok (.value p) w := by
  subst hp
  obtain ⟨dst, op, ty, pos, after, guard⟩ := o
  simp only at h
  subst h
  go_simp
theorem rn_ldB8 {g off : Nat} {v : Value} {w : World} (h : o.op = .load 5 x) (hx : ρ x = .pointer (some ⟨g, off, none⟩)) (hv : w.cell? ⟨g, off, none⟩ = some v) :
    (execOp ρ o).run Tryd.prog w = .ok (.value v) w := by
  unfold execOp
  simp only [h, hx, run_load1 Tryd.underlying5 hv, Sem.run_bind, Sem.run_pure, Result.andThen_ok]
theorem run_loadPs (w : World) {b o : Nat} {v : Value} (hc : w.cell? ⟨b, o, none⟩ = some v) : (Instr.loadAt 99 (.pointer (some ⟨b, o, none⟩))).run Tryd.prog w = .ok v w := by
  have hn : (isAgg 99).run Tryd.prog w = .ok false w := by simp [isAgg, run_underlying Tryd.underlying99]
  simp only [Instr.loadAt, Instr.sureAddr, loadVar, Sem.run_bind, Sem.run_pure, Result.andThen_ok, hn]
  rw [if_neg (by decide), run_load, hc]
end
/-- A call of the law, as it lies in memory. -/
structure AV where
  wh : Int
  i : Int
  A : Option Addr
  n : Nat
  c : Nat
  s : Bool
def AV.ls (x : AV) : List Value := [.int .i64 x.wh, .int .i64 x.i, .slice x.A x.n x.c, .bool x.s]
section
variable {ρ : Operand → Value} {o : Oper} {x y : Operand}
end
end Go.Proofs.YtlpjhaghphmbeaaDoor
namespace Go.Proofs.YtlpjhaghphmbeaaDoor
open Go.RowKit

def ShOk (L : List Ln) (pl gn : Nat) : Prop := 1 ≤ pl ∧ pl ≤ 1024 ∧ gn + L.length ≤ pl ∧ ∀ l ∈ L, okL l.1 = true
theorem ShOk.len {L : List Ln} {pl gn : Nat} (h : ShOk L pl gn) : L.length ≤ 1024 := by have := h.2.1; have := h.2.2.1; omega
theorem ShOk.cells {L : List Ln} {pl gn : Nat} (h : ShOk L pl gn) : ∀ l ∈ L, l.1.length ≤ 1000 := fun l hl => okL_len (h.2.2.2 l hl)
/-- A page at p. -/
def shD (p : Nat) (L : List Ln) (pl gn : Nat) : Dat where
  P w F := ∃ A c xs G, Blk w p 108 #[.slice A L.length c, .int .i64 (pl : Int), .int .i64 (gn : Int)] ∧ SepL [rowD (.slice A L.length c) xs, elsD xs L] w G ∧ (∀ k, G k → F k) ∧ F p ∧ ¬ G p ∧ ShOk L pl gn
  fr := fun ⟨A, c, xs, G, h1, h2, h3, h4, h5⟩ hf hn => ⟨A, c, xs, G, h1.fr hf (hn p h4), h2.fr hf (fun k hk => hn k (h3 k hk)), h3, h4, h5⟩
  up := fun ⟨A, c, xs, G, h1, h2, h3, h4, h5⟩ hs => ⟨A, c, xs, G, h1, h2, fun k hk => hs k (h3 k hk), hs p h4, h5⟩
section
variable {r e w w' : World} {F S0 : FP} {ps : List Nat} {A : Option Addr} {n c p pl gn m : Nat} {xs : List LV} {L : List Ln} {D : List Dat}
theorem sh_shut (hD : Dt r e F m ps (rowD (.slice A L.length c) xs :: elsD xs L :: D) w) (hp : p ∈ ps) (hFp : F p ∨ e.heap.size ≤ p) (hB : Blk w p 108 #[.slice A L.length c, .int .i64 (pl : Int), .int .i64 (gn : Int)]) (hok : ShOk L pl gn) : Turned (shD p L pl gn :: D) F e w := by
  obtain ⟨G, h1, h2⟩ := hD.ex
  obtain ⟨X, Y, k1, k2, k3, k4, k5⟩ := SepL.split (A := [rowD (.slice A L.length c) xs, elsD xs L]) (B := D) h1
  refine ⟨hD.fr, fun k => k = p ∨ G k, ⟨fun k => k = p ∨ X k, Y, ⟨A, c, xs, X, hB, k1, fun k hk => .inr hk, .inl rfl, fun hx => (h2 p (k4 p hx)).2.2 hp, hok⟩, k2, fun k hk hy => ?_, fun k hk => hk.imp id (k4 k), fun k hk => .inr (k5 k hk)⟩, fun k hk => ?_⟩
  · rcases hk with rfl | hk
    · exact (h2 _ (k5 _ hy)).2.2 hp
    · exact k3 k hk hy
  · rcases hk with rfl | hk
    · exact hFp.imp id (fun h => ⟨h, hB.lt⟩)
    · exact (h2 k hk).1.imp id (fun h => ⟨h, (h2 k hk).2.1⟩)
theorem sep_nil (w : World) (G : FP) (_ : SepL [] w G) : SepL [rowD (.slice none 0 0) [], elsD [] []] w G :=
  ⟨fun _ => False, fun _ => False, OwnO.nil w _, SepL.one (els_nil w _), fun _ h _ => h, fun _ h => h.elim, fun _ h => h.elim⟩
theorem sh_ok {w : World} {F : FP} (h : (shD p L pl gn).P w F) : ShOk L pl gn := by
  obtain ⟨A, c, xs, G, h1, h2, h3, h4, h5, h6⟩ := h
  exact h6
end

section
variable {ρ : Operand → Value} {o : Oper} {x y : Operand} {w : World} {F : FP} {A : Option Addr} {n c k : Nat} {xs : List LV} {L : List Ln}
/-- append of one line onto a row. -/
theorem app_d {B : Option Addr} {b cx : Nat} {u : LV} {l : Ln} (hsep : SepL [rowD (.slice A n c) xs, elsD xs L, cellsD u.v l.1] w F) (hF : ∀ k, F k → 2 ≤ k ∧ k < w.heap.size) (hs : u.s = l.2) (hr : RdG rL w b B 1 [u]) (hlen : L.length ≤ 100000)
    (h : o.op = .call { callee := .builtin .append, args := #[x, y], argTypes := #[30, 30] }) (hx : ρ x = .slice A n c) (hy : ρ y = .slice B 1 cx) :
    ∃ v' w', (execOp ρ o).run Tryd.prog w = .ok (.value v') w' ∧ ∃ A' c', v' = .slice A' (L ++ [l]).length c' ∧ Turned [rowD (.slice A' (L ++ [l]).length c') (xs ++ [u]), elsD (xs ++ [u]) (L ++ [l])] F w w' := by
  obtain ⟨X, Y, h1, h2, h3, h4, h5⟩ := hsep
  have h1' : OwnO rL w X (.slice A n c) xs := h1
  have hels : (elsD (xs ++ [u]) (L ++ [l])).P w Y := els_snoc h2 hs
  have hl : (xs ++ [u]).length = (L ++ [l]).length := hels.1
  obtain ⟨v', w', hrun, ⟨A', c', e1, _⟩, hf, F', hO, hF'⟩ := rg_append (R := rL) (ρ := ρ) (o := o) (x := x) (y := y) h1' hr (by decide) (by simp at hl; omega) h hx hy
  rw [hl] at e1
  subst e1
  exact ⟨_, w', hrun, A', c', rfl, Turned.frame (A := [rowD _ _]) ⟨hf, F', SepL.one hO, hF'⟩ (SepL.one hels) h3 h4 h5 (fun k hk => (hF k hk).2)⟩
/-- A line of a row is given another one. -/
theorem set_does {a : Act} {Q : Exit → Act → World → Prop} {K : Act → World → Prop} {g off : Nat} {u : LV} {l : Ln} (hsep : SepL [rowD (.slice (some ⟨g, off, none⟩) n c) xs, elsD xs L, cellsD u.v l.1] w F) (hF : ∀ k, F k → 2 ≤ k ∧ k < w.heap.size) (hs : u.s = l.2) (hk : k < n)
    (ho : o.op = .store 36 x y) (hx : a.eval x = .pointer (some ⟨g, off + k * 2, none⟩)) (hy : a.eval y = .agg #[u.v, .bool u.s])
    (h : ∀ w', Turned [rowD (.slice (some ⟨g, off, none⟩) n c) (xs.set k u), elsD (xs.set k u) (L.set k l)] F w w' → K (a.put o.dst undef) w') : Oper.wp Tryd.prog o a w K Q := by
  obtain ⟨X, Y, h1, h2, h3, h4, h5⟩ := hsep
  have h1' : OwnO rL w X (.slice (some ⟨g, off, none⟩) n c) xs := h1
  obtain ⟨b, _, hn, _⟩ := h1'.rdg
  obtain ⟨g', off', cur, e1, hg, hB, hfit, hset⟩ := h1'.at_ hk
  simp only [Option.some.injEq, Addr.mk.injEq, and_true] at e1
  obtain ⟨rfl, rfl⟩ := e1
  refine storeV_does ho hx hy (news := (rL.ls u).toArray) rfl hB (by kernel_rfl) hfit (fun v hv => rL.one u v (by simpa using hv)) (fun w' hB' hf _ => h w' ?_)
  have hels : (elsD (xs.set k u) (L.set k l)).P w Y := els_set (SepL.perm (List.Perm.swap _ _ _) h2) hs (by omega)
  exact Turned.frame (A := [rowD _ _]) ⟨hf.weak (fun j _ hj => by subst hj; exact hg), X, SepL.one (hset w' u hB'), fun j hj => .inl hj⟩ (SepL.one hels) h3 h4 h5 (fun k hk => (hF k hk).2)
/-- clear of the front, or the end, of a row. -/
theorem clear_d {B : Option Addr} {m cx : Nat} (hrow : (rowD (.slice A n c) xs).P w F) (hB : ∀ g off, 0 < m → A = some ⟨g, off, none⟩ → B = some ⟨g, off + k * 2, none⟩) (hkm : k + m ≤ n)
    (h : o.op = .call { callee := .builtin .clear, args := #[x], argTypes := #[30] }) (hx : ρ x = .slice B m cx) :
    ∃ v' w', (execOp ρ o).run Tryd.prog w = .ok (.value v') w' ∧ v' = .tuple #[] ∧ Turned [rowD (.slice A n c) (xs.take k ++ List.replicate m zL ++ xs.drop (k + m))] F w w' := by
  have hrow' : OwnO rL w F (.slice A n c) xs := hrow
  obtain ⟨v', w', hrun, e1, hf, hO, _⟩ := rg_clear (R := rL) (ρ := ρ) (o := o) (x := x) (z0 := zL) (k := k) zL_ls hrow' hB hkm h hx
  exact ⟨v', w', hrun, e1, hf, F, SepL.one hO, fun k hk => .inl hk⟩
end
section
variable {ops : Array Oper} {Q : Exit → Act → World → Prop} {a : Act} {w : World} {rest : List Oper} {o : Oper} {N i n c g off : Nat} {Fr_ : List (Nat × Value)} {F : FP} {xs : List LV} {L : List Ln} {u : LV} {l : Ln} {x y : Operand}
theorem lRow (hsep : SepL [rowD (.slice (some ⟨g, off, none⟩) n c) xs, elsD xs L, cellsD u.v l.1] w F) (hF : ∀ k, F k → 2 ≤ k ∧ k < w.heap.size) (hs : u.s = l.2) (hk : i < n) (he : Env N Fr_ a) (hd : o.dst = none) (hw : Region.wanted o (yielded ops a.tmps) = true)
    (ho : o.op = .store 36 x y) (hx : evO Fr_ x = some (.pointer (some ⟨g, off + i * 2, none⟩))) (hy : evO Fr_ y = some (.agg #[u.v, .bool u.s]))
    (next : ∀ w' a', Turned [rowD (.slice (some ⟨g, off, none⟩) n c) (xs.set i u), elsD (xs.set i u) (L.set i l)] F w w' → Env N Fr_ a' → wpList Tryd.prog ops Q rest a' w') : wpList Tryd.prog ops Q (o :: rest) a w :=
  wpList_step fun K hK => by
    rw [if_pos hw]
    exact set_does hsep hF hs hk ho (he.op hx) (he.op hy) (fun w' ht => hK _ _ (by rw [hd]; exact next _ _ ht (he.put0 _)))
theorem hRow {md : Region.Mode} {S : World → Prop} {fuel : Nat} {listed : Array Bool} {j : Nat} (hsep : SepL [rowD (.slice (some ⟨g, off, none⟩) n c) xs, elsD xs L, cellsD u.v l.1] w F) (hF : ∀ k, F k → 2 ≤ k ∧ k < w.heap.size) (hs : u.s = l.2) (hk : i < n) (he : Env N Fr_ a)
    (hr : Region.ready md ops listed = [j]) (hoi : ops[j]? = some o) (hd : o.dst = none) (hw : Region.wanted o (yielded ops a.tmps) = true)
    (ho : o.op = .store 36 x y) (hx : evO Fr_ x = some (.pointer (some ⟨g, off + i * 2, none⟩))) (hy : evO Fr_ y = some (.agg #[u.v, .bool u.s]))
    (next : ∀ w' a', Turned [rowD (.slice (some ⟨g, off, none⟩) n c) (xs.set i u), elsD (xs.set i u) (L.set i l)] F w w' → Env N Fr_ a' → S w' ∧ wpAnyH Tryd.prog md ops Q S fuel (listed.setIfInBounds j true) a' w') : wpAnyH Tryd.prog md ops Q S (fuel + 1) listed a w :=
  allH hr hoi hw (fun K hK => set_does hsep hF hs hk ho (he.op hx) (he.op hy) (fun w' ht => by
    have := next w' (a.put none undef) ht (he.put0 _)
    rw [hd]
    exact hK _ _ this.1 this.2))
end

/-! ### What the calls of a page do -/
abbrev zLn : Ln := ([], false)
def pushS (L : List Ln) (pl gn : Nat) (l : Ln) : List Ln × Int := if okL l.1 = true then if pl - gn - L.length = 0 then (L, 7) else (L ++ [l], 0) else (L, 2)
def setS (L : List Ln) (i : Int) (l : Ln) : List Ln × Int := if okL l.1 = true then if 0 ≤ i ∧ i < L.length then (L.set i.toNat l, 0) else (L, 3) else (L, 2)
def dropS (L : List Ln) (gn : Nat) (n : Int) : List Ln × Nat × Int := if 0 ≤ n ∧ n ≤ L.length then (L.drop n.toNat, gn + n.toNat, 0) else (L, gn, 3)
def popS (L : List Ln) : List Ln × Ln × Int := if L.length = 0 then (L, zLn, 9) else (L.take (L.length - 1), L.getD (L.length - 1) zLn, 0)
def getS (L : List Ln) (i : Int) : Ln × Int := if 0 ≤ i ∧ i < L.length then (L.getD i.toNat zLn, 0) else (zLn, 3)
theorem push_full {L : List Ln} {pl gn : Nat} {l : Ln} (hl : okL l.1 = true) (h : gn + L.length < pl) : pushS L pl gn l = (L ++ [l], 0) := by
  unfold pushS
  rw [if_pos hl, if_neg (by omega)]
theorem push_ok {L : List Ln} {pl gn : Nat} {l : Ln} (h : ShOk L pl gn) : ShOk (pushS L pl gn l).1 pl gn := by
  unfold pushS
  split
  · split
    · exact h
    · refine ⟨h.1, h.2.1, ?_, fun m hm => ?_⟩
      · have := h.2.2.1
        simp only [List.length_append, List.length_cons, List.length_nil]
        omega
      · rcases List.mem_append.1 hm with hm | hm
        · exact h.2.2.2 m hm
        · simp at hm
          subst hm
          assumption
  · exact h
theorem set_ok {L : List Ln} {pl gn : Nat} {i : Int} {l : Ln} (h : ShOk L pl gn) : ShOk (setS L i l).1 pl gn := by
  unfold setS
  split
  · split
    · refine ⟨h.1, h.2.1, by simpa using h.2.2.1, fun m hm => ?_⟩
      rcases List.mem_or_eq_of_mem_set hm with hm | hm
      · exact h.2.2.2 m hm
      · subst hm
        assumption
    · exact h
  · exact h
theorem drop_ok {L : List Ln} {pl gn : Nat} {n : Int} (h : ShOk L pl gn) : ShOk (dropS L gn n).1 pl (dropS L gn n).2.1 := by
  unfold dropS
  split
  · refine ⟨h.1, h.2.1, ?_, fun m hm => h.2.2.2 m (List.mem_of_mem_drop hm)⟩
    have := h.2.2.1
    simp only [List.length_drop]
    omega
  · exact h
theorem pop_ok {L : List Ln} {pl gn : Nat} (h : ShOk L pl gn) : ShOk (popS L).1 pl gn := by
  unfold popS
  split
  · exact h
  · refine ⟨h.1, h.2.1, ?_, fun m hm => h.2.2.2 m (List.mem_of_mem_take hm)⟩
    have := h.2.2.1
    simp only [List.length_take]
    omega
end Go.Proofs.YtlpjhaghphmbeaaDoor
namespace Go.Proofs.YtlpjhaghphmbeaaDoor
open Go.RowKit

set_option linter.unusedSimpArgs false in
set_option maxRecDepth 100000 in
set_option maxHeartbeats 1600000 in
theorem unmade_f (A : Option Addr) (n c p pl gn : Nat) (w : World) (hB : Blk w p 108 #[.slice A n c, .int .i64 pl, .int .i64 gn]) (hpl : ((pl : Int) == 0) = false) (hT : Tab w) : Calls Tryd.prog 63 #[.pointer (some ⟨p, 0, none⟩)] w fun e w' => e = .returned (.bool false) ∧ New w w' := by
  refine calls_args (vl := [.pointer (some ⟨p, 0, none⟩)]) 12 Tryd.func63 rfl Tryd.ntmps63 (by kernel_rfl) (fun a he => ?_)
  have he0 : Env 12 [(0, .pointer (some ⟨p, 0, none⟩))] a := he
  clear he
  have hH := Hp.bare1 hB
  have hD := Dt.read1 hT hB.lt
  refine wp_seq (wp_region_lit ?_)
  refine lW (.bool false) he0 rfl (rn_asg rfl (he0.op rfl) w) ?_
  intro a1 he1
  clear he0 a
  refine wpList_nil (then_ok ?_)
  refine wp_seq (wp_region_lit ?_)
  refine lW (.pointer (some ⟨p, 0, none⟩)) he1 rfl (rn_mv rfl (he1.op rfl) w) ?_
  intro a2 he2
  clear he1 a1
  refine lW (.bool false) he2 rfl (rn_eqP1 rfl (he2.op rfl) (fun _ => rfl) w) ?_
  intro a3 he3
  clear he2 a2
  refine lW (.bool false) he3 rfl (rn_mv rfl (he3.op rfl) w) ?_
  intro a4 he4
  clear he3 a3
  refine lV (.pointer (some ⟨p, 0, none⟩)) he4 rfl rfl (he4.want rfl rfl rfl rfl rfl) (rn_mv rfl (he4.op rfl) w) ?_
  intro a5 he5
  clear he4 a4
  refine lV (.pointer (some ⟨p, 0, none⟩)) he5 rfl rfl (he5.want rfl rfl rfl rfl rfl) (rn_nilck rfl (he5.op rfl) w) ?_
  intro a6 he6
  clear he5 a5
  refine lV (.pointer (some ⟨p, 1, none⟩)) he6 rfl rfl (he6.want rfl rfl rfl rfl rfl) (rn_faS1 rfl (he6.op rfl) rfl w) ?_
  intro a7 he7
  clear he6 a6
  refine lV (.int .i64 pl) he7 rfl rfl (he7.want rfl rfl rfl rfl rfl) (rn_ld1 rfl (he7.op rfl) Tryd.underlying3 (hH.at (i := 0) rfl) rfl) ?_
  intro a8 he8
  clear he7 a7
  refine lV (.bool false) he8 rfl rfl (he8.want rfl rfl rfl rfl rfl) (rn_eqI rfl (he8.op rfl) (he8.op rfl) hpl w) ?_
  intro a9 he9
  clear he8 a8
  refine lW (.bool false) he9 rfl (rn_pk0 rfl (he9.op rfl) (he9.op rfl) w) ?_
  intro a10 he10
  clear he9 a9
  refine lW (.bool false) he10 rfl (rn_asg rfl (he10.op rfl) w) ?_
  intro a11 he11
  clear he10 a10
  refine wpList_nil (then_ok ?_)
  refine wp_ret ?_
  try simp only [Exit.then, Exit.inBlock]
  exact ret_env rfl he11 rfl ⟨rfl, hD.fr⟩
/-- A page that is nil or zero. -/
def Um (w : World) (a : Option Addr) : Prop := a = none ∨ ∃ q A n c gn, a = some ⟨q, 0, none⟩ ∧ Blk w q 108 #[.slice A n c, .int .i64 0, .int .i64 gn]
theorem Um.new {w w' : World} {a : Option Addr} (h : Um w a) (hn : New w w') : Um w' a := by
  rcases h with h | ⟨q, A, n, c, gn, h1, h2⟩
  · exact .inl h
  · exact .inr ⟨q, A, n, c, gn, h1, h2.fr hn (fun h => h)⟩
set_option linter.unusedSimpArgs false in
set_option maxRecDepth 100000 in
set_option maxHeartbeats 1600000 in
theorem len_b (A : Option Addr) (n c p pl gn : Nat) (w : World) (hB : Blk w p 108 #[.slice A n c, .int .i64 pl, .int .i64 gn]) (hpl : ((pl : Int) == 0) = false) (hT : Tab w) : Calls Tryd.prog 48 #[.pointer (some ⟨p, 0, none⟩)] w fun e w' => e = .returned (.int .i64 n) ∧ New w w' := by
  refine calls_args (vl := [.pointer (some ⟨p, 0, none⟩)]) 10 Tryd.func48 rfl Tryd.ntmps48 (by kernel_rfl) (fun a he => ?_)
  have he0 : Env 10 [(0, .pointer (some ⟨p, 0, none⟩))] a := he
  clear he
  have hH := Hp.bare1 hB
  have hD := Dt.read1 hT hB.lt
  refine wp_seq (wp_region_lit ?_)
  refine lW (.int .i64 0) he0 rfl (rn_asg rfl (he0.op rfl) w) ?_
  intro a1 he1
  clear he0 a
  refine wpList_nil (then_ok ?_)
  refine wp_seq ?_
  refine wp_seq (wp_region_lit ?_)
  refine lW (.pointer (some ⟨p, 0, none⟩)) he1 rfl (rn_mv rfl (he1.op rfl) w) ?_
  intro a2 he2
  clear he1 a1
  refine lC he2 rfl rfl Tryd.func63 (by kernel_rfl) rfl rfl (wanted_plain rfl _) rfl (unmade_f _ _ _ _ pl gn w (hH.at (i := 0) rfl) hpl hD.tab) ?_
  intro w3 a4 hn he4
  have hH3 := hH.call hn
  replace hD := (hD).new hn
  clear he2 a2 hH hn
  refine wpList_nil (then_ok ?_)
  refine wp_cond_false (he4.op rfl) ?_
  refine wp_skip ?_
  refine then_ok ?_
  refine wp_seq (wp_region_lit ?_)
  refine lW (.pointer (some ⟨p, 0, none⟩)) he4 rfl (rn_mv rfl (he4.op rfl) w3) ?_
  intro a5 he5
  clear he4 a4
  refine lW (.pointer (some ⟨p, 0, none⟩)) he5 rfl (rn_nilck rfl (he5.op rfl) w3) ?_
  intro a6 he6
  clear he5 a5
  refine lW (.pointer (some ⟨p, 0, none⟩)) he6 rfl (rn_faS0 rfl (he6.op rfl) rfl w3) ?_
  intro a7 he7
  clear he6 a6
  refine lW (.slice A n c) he7 rfl (rn_ldLs rfl (he7.op rfl) (hH3.at (i := 0) rfl) rfl) ?_
  intro a8 he8
  clear he7 a7
  refine lW (.int .i64 n) he8 rfl (rn_lenL rfl (he8.op rfl) w3) ?_
  intro a9 he9
  clear he8 a8
  refine lW (.int .i64 n) he9 rfl (rn_asg rfl (he9.op rfl) w3) ?_
  intro a10 he10
  clear he9 a9
  refine wpList_nil (then_ok ?_)
  refine wp_ret ?_
  try simp only [Exit.then, Exit.inBlock]
  exact ret_env rfl he10 rfl ⟨rfl, hD.fr⟩
set_option linter.unusedSimpArgs false in
set_option maxRecDepth 100000 in
set_option maxHeartbeats 1600000 in
theorem cap_b (A : Option Addr) (n c p pl gn : Nat) (w : World) (hB : Blk w p 108 #[.slice A n c, .int .i64 pl, .int .i64 gn]) (hpl : ((pl : Int) == 0) = false) (hT : Tab w) : Calls Tryd.prog 77 #[.pointer (some ⟨p, 0, none⟩)] w fun e w' => e = .returned (.int .i64 pl) ∧ New w w' := by
  refine calls_args (vl := [.pointer (some ⟨p, 0, none⟩)]) 9 Tryd.func77 rfl Tryd.ntmps77 (by kernel_rfl) (fun a he => ?_)
  have he0 : Env 9 [(0, .pointer (some ⟨p, 0, none⟩))] a := he
  clear he
  have hH := Hp.bare1 hB
  have hD := Dt.read1 hT hB.lt
  refine wp_seq (wp_region_lit ?_)
  refine lW (.int .i64 0) he0 rfl (rn_asg rfl (he0.op rfl) w) ?_
  intro a1 he1
  clear he0 a
  refine wpList_nil (then_ok ?_)
  refine wp_seq ?_
  refine wp_seq (wp_region_lit ?_)
  refine lW (.pointer (some ⟨p, 0, none⟩)) he1 rfl (rn_mv rfl (he1.op rfl) w) ?_
  intro a2 he2
  clear he1 a1
  refine lC he2 rfl rfl Tryd.func63 (by kernel_rfl) rfl rfl (wanted_plain rfl _) rfl (unmade_f _ _ _ _ pl gn w (hH.at (i := 0) rfl) hpl hD.tab) ?_
  intro w3 a4 hn he4
  have hH3 := hH.call hn
  replace hD := (hD).new hn
  clear he2 a2 hH hn
  refine wpList_nil (then_ok ?_)
  refine wp_cond_false (he4.op rfl) ?_
  refine wp_skip ?_
  refine then_ok ?_
  refine wp_seq (wp_region_lit ?_)
  refine lW (.pointer (some ⟨p, 0, none⟩)) he4 rfl (rn_mv rfl (he4.op rfl) w3) ?_
  intro a5 he5
  clear he4 a4
  refine lW (.pointer (some ⟨p, 0, none⟩)) he5 rfl (rn_nilck rfl (he5.op rfl) w3) ?_
  intro a6 he6
  clear he5 a5
  refine lW (.pointer (some ⟨p, 1, none⟩)) he6 rfl (rn_faS1 rfl (he6.op rfl) rfl w3) ?_
  intro a7 he7
  clear he6 a6
  refine lW (.int .i64 pl) he7 rfl (rn_ld1 rfl (he7.op rfl) Tryd.underlying3 (hH3.at (i := 0) rfl) rfl) ?_
  intro a8 he8
  clear he7 a7
  refine lW (.int .i64 pl) he8 rfl (rn_asg rfl (he8.op rfl) w3) ?_
  intro a9 he9
  clear he8 a8
  refine wpList_nil (then_ok ?_)
  refine wp_ret ?_
  try simp only [Exit.then, Exit.inBlock]
  exact ret_env rfl he9 rfl ⟨rfl, hD.fr⟩
set_option linter.unusedSimpArgs false in
set_option maxRecDepth 100000 in
set_option maxHeartbeats 1600000 in
theorem gone_b (A : Option Addr) (n c p pl gn : Nat) (w : World) (hB : Blk w p 108 #[.slice A n c, .int .i64 pl, .int .i64 gn]) (hpl : ((pl : Int) == 0) = false) (hT : Tab w) : Calls Tryd.prog 62 #[.pointer (some ⟨p, 0, none⟩)] w fun e w' => e = .returned (.int .i64 gn) ∧ New w w' := by
  refine calls_args (vl := [.pointer (some ⟨p, 0, none⟩)]) 9 Tryd.func62 rfl Tryd.ntmps62 (by kernel_rfl) (fun a he => ?_)
  have he0 : Env 9 [(0, .pointer (some ⟨p, 0, none⟩))] a := he
  clear he
  have hH := Hp.bare1 hB
  have hD := Dt.read1 hT hB.lt
  refine wp_seq (wp_region_lit ?_)
  refine lW (.int .i64 0) he0 rfl (rn_asg rfl (he0.op rfl) w) ?_
  intro a1 he1
  clear he0 a
  refine wpList_nil (then_ok ?_)
  refine wp_seq ?_
  refine wp_seq (wp_region_lit ?_)
  refine lW (.pointer (some ⟨p, 0, none⟩)) he1 rfl (rn_mv rfl (he1.op rfl) w) ?_
  intro a2 he2
  clear he1 a1
  refine lC he2 rfl rfl Tryd.func63 (by kernel_rfl) rfl rfl (wanted_plain rfl _) rfl (unmade_f _ _ _ _ pl gn w (hH.at (i := 0) rfl) hpl hD.tab) ?_
  intro w3 a4 hn he4
  have hH3 := hH.call hn
  replace hD := (hD).new hn
  clear he2 a2 hH hn
  refine wpList_nil (then_ok ?_)
  refine wp_cond_false (he4.op rfl) ?_
  refine wp_skip ?_
  refine then_ok ?_
  refine wp_seq (wp_region_lit ?_)
  refine lW (.pointer (some ⟨p, 0, none⟩)) he4 rfl (rn_mv rfl (he4.op rfl) w3) ?_
  intro a5 he5
  clear he4 a4
  refine lW (.pointer (some ⟨p, 0, none⟩)) he5 rfl (rn_nilck rfl (he5.op rfl) w3) ?_
  intro a6 he6
  clear he5 a5
  refine lW (.pointer (some ⟨p, 2, none⟩)) he6 rfl (rn_faS2 rfl (he6.op rfl) rfl w3) ?_
  intro a7 he7
  clear he6 a6
  refine lW (.int .i64 gn) he7 rfl (rn_ld1 rfl (he7.op rfl) Tryd.underlying3 (hH3.at (i := 0) rfl) rfl) ?_
  intro a8 he8
  clear he7 a7
  refine lW (.int .i64 gn) he8 rfl (rn_asg rfl (he8.op rfl) w3) ?_
  intro a9 he9
  clear he8 a8
  refine wpList_nil (then_ok ?_)
  refine wp_ret ?_
  try simp only [Exit.then, Exit.inBlock]
  exact ret_env rfl he9 rfl ⟨rfl, hD.fr⟩
set_option linter.unusedSimpArgs false in
set_option maxRecDepth 100000 in
set_option maxHeartbeats 1600000 in
theorem has_b (A : Option Addr) (n c p pl gn : Nat) (w : World) (hB : Blk w p 108 #[.slice A n c, .int .i64 pl, .int .i64 gn]) (i : Int) (v : Bool) (hv : (decide (0 ≤ i) && decide (i < n)) = v) (hT : Tab w) : Calls Tryd.prog 64 #[.pointer (some ⟨p, 0, none⟩), .int .i64 i] w fun e w' => e = .returned (.bool v) ∧ New w w' := by
  subst hv
  by_cases h0 : 0 ≤ i
  · skip
    refine calls_args (vl := [.pointer (some ⟨p, 0, none⟩), .int .i64 i]) 16 Tryd.func64 rfl Tryd.ntmps64 (by kernel_rfl) (fun a he => ?_)
    have he0 : Env 16 [(0, .pointer (some ⟨p, 0, none⟩)), (1, .int .i64 i)] a := he
    clear he
    have hH := Hp.bare1 hB
    have hD := Dt.read1 hT hB.lt
    refine wp_seq (wp_region_lit ?_)
    refine lW (.bool false) he0 rfl (rn_asg rfl (he0.op rfl) w) ?_
    intro a1 he1
    clear he0 a
    refine wpList_nil (then_ok ?_)
    obtain ⟨b, hb⟩ : ∃ b, decide (i < (n : Int)) = b := ⟨_, rfl⟩
    rw [decide_eq_true h0, Bool.true_and, hb]
    refine wp_seq (wp_region_lit ?_)
    refine lW (.int .i64 i) he1 rfl (rn_mv rfl (he1.op rfl) w) ?_
    intro a2 he2
    clear he1 a1
    refine lW (.bool true) he2 rfl (rn_geq rfl (he2.op rfl) (he2.op rfl) (decide_eq_true h0) w) ?_
    intro a3 he3
    clear he2 a2
    refine lW (.bool true) he3 rfl (rn_mv rfl (he3.op rfl) w) ?_
    intro a4 he4
    clear he3 a3
    refine lV (.int .i64 i) he4 rfl rfl (he4.want rfl rfl rfl rfl rfl) (rn_mv rfl (he4.op rfl) w) ?_
    intro a5 he5
    clear he4 a4
    refine lV (.pointer (some ⟨p, 0, none⟩)) he5 rfl rfl (he5.want rfl rfl rfl rfl rfl) (rn_mv rfl (he5.op rfl) w) ?_
    intro a6 he6
    clear he5 a5
    refine lV (.pointer (some ⟨p, 0, none⟩)) he6 rfl rfl (he6.want rfl rfl rfl rfl rfl) (rn_nilck rfl (he6.op rfl) w) ?_
    intro a7 he7
    clear he6 a6
    refine lV (.pointer (some ⟨p, 0, none⟩)) he7 rfl rfl (he7.want rfl rfl rfl rfl rfl) (rn_faS0 rfl (he7.op rfl) rfl w) ?_
    intro a8 he8
    clear he7 a7
    refine lV (.slice A n c) he8 rfl rfl (he8.want rfl rfl rfl rfl rfl) (rn_ldLs rfl (he8.op rfl) (hH.at (i := 0) rfl) rfl) ?_
    intro a9 he9
    clear he8 a8
    refine lV (.int .i64 n) he9 rfl rfl (he9.want rfl rfl rfl rfl rfl) (rn_lenL rfl (he9.op rfl) w) ?_
    intro a10 he10
    clear he9 a9
    refine lV (.bool b) he10 rfl rfl (he10.want rfl rfl rfl rfl rfl) (rn_lss rfl (he10.op rfl) (he10.op rfl) hb w) ?_
    intro a11 he11
    clear he10 a10
    refine lW (.bool b) he11 rfl (rn_pk rfl (he11.op rfl) (he11.op rfl) w) ?_
    intro a12 he12
    clear he11 a11
    refine lW (.bool b) he12 rfl (rn_asg rfl (he12.op rfl) w) ?_
    intro a13 he13
    clear he12 a12
    refine wpList_nil (then_ok ?_)
    refine wp_ret ?_
    try simp only [Exit.then, Exit.inBlock]
    exact ret_env rfl he13 rfl ⟨rfl, hD.fr⟩
  refine calls_args (vl := [.pointer (some ⟨p, 0, none⟩), .int .i64 i]) 16 Tryd.func64 rfl Tryd.ntmps64 (by kernel_rfl) (fun a he => ?_)
  have he0 : Env 16 [(0, .pointer (some ⟨p, 0, none⟩)), (1, .int .i64 i)] a := he
  clear he
  have hH := Hp.bare1 hB
  have hD := Dt.read1 hT hB.lt
  refine wp_seq (wp_region_lit ?_)
  refine lW (.bool false) he0 rfl (rn_asg rfl (he0.op rfl) w) ?_
  intro a1 he1
  clear he0 a
  refine wpList_nil (then_ok ?_)
  rw [decide_eq_false h0, Bool.false_and]
  refine wp_seq (wp_region_lit ?_)
  refine lW (.int .i64 i) he1 rfl (rn_mv rfl (he1.op rfl) w) ?_
  intro a2 he2
  clear he1 a1
  refine lW (.bool false) he2 rfl (rn_geq rfl (he2.op rfl) (he2.op rfl) (decide_eq_false h0) w) ?_
  intro a3 he3
  clear he2 a2
  refine lW (.bool false) he3 rfl (rn_mv rfl (he3.op rfl) w) ?_
  intro a4 he4
  clear he3 a3
  refine lSkip he4 rfl rfl (he4.wantNot rfl rfl rfl rfl rfl rfl) ?_
  intro a5 he5
  clear he4 a4
  refine lSkip he5 rfl rfl (he5.wantNot rfl rfl rfl rfl rfl rfl) ?_
  intro a6 he6
  clear he5 a5
  refine lSkip he6 rfl rfl (he6.wantNot rfl rfl rfl rfl rfl rfl) ?_
  intro a7 he7
  clear he6 a6
  refine lSkip he7 rfl rfl (he7.wantNot rfl rfl rfl rfl rfl rfl) ?_
  intro a8 he8
  clear he7 a7
  refine lSkip he8 rfl rfl (he8.wantNot rfl rfl rfl rfl rfl rfl) ?_
  intro a9 he9
  clear he8 a8
  refine lSkip he9 rfl rfl (he9.wantNot rfl rfl rfl rfl rfl rfl) ?_
  intro a10 he10
  clear he9 a9
  refine lSkip he10 rfl rfl (he10.wantNot rfl rfl rfl rfl rfl rfl) ?_
  intro a11 he11
  clear he10 a10
  refine lW (.bool false) he11 rfl (rn_pk0 rfl (he11.op rfl) (he11.op rfl) w) ?_
  intro a12 he12
  clear he11 a11
  refine lW (.bool false) he12 rfl (rn_asg rfl (he12.op rfl) w) ?_
  intro a13 he13
  clear he12 a12
  refine wpList_nil (then_ok ?_)
  refine wp_ret ?_
  try simp only [Exit.then, Exit.inBlock]
  exact ret_env rfl he13 rfl ⟨rfl, hD.fr⟩
set_option linter.unusedSimpArgs false in
set_option maxRecDepth 100000 in
set_option maxHeartbeats 1600000 in
theorem room_b (p pl gn : Nat) (L : List Ln) (F : FP) (w : World) (hs : (shD p L pl gn).P w F) (hT : Tab w) : Calls Tryd.prog 69 #[.pointer (some ⟨p, 0, none⟩)] w fun e w' => e = .returned (.int .i64 ((pl - gn - L.length : Nat) : Int)) ∧ New w w' := by
  obtain ⟨A, c, xs, G, hB, hsep, hG, hFp, hGp, hok⟩ := id hs
  have hpl : ((pl : Int) == 0) = false := by have := hok.1; simp; omega
  refine calls_args (vl := [.pointer (some ⟨p, 0, none⟩)]) 11 Tryd.func69 rfl Tryd.ntmps69 (by kernel_rfl) (fun a he => ?_)
  have he0 : Env 11 [(0, .pointer (some ⟨p, 0, none⟩))] a := he
  clear he
  have hH := Hp.bare1 hB
  have hD := Dt.read1 hT hB.lt
  have hlen := hok.2.2.1
  have hp9 := hok.2.1
  refine wp_seq (wp_region_lit ?_)
  refine lW (.int .i64 0) he0 rfl (rn_asg rfl (he0.op rfl) w) ?_
  intro a1 he1
  clear he0 a
  refine wpList_nil (then_ok ?_)
  refine wp_seq (wp_region_lit ?_)
  refine lW (.pointer (some ⟨p, 0, none⟩)) he1 rfl (rn_mv rfl (he1.op rfl) w) ?_
  intro a2 he2
  clear he1 a1
  refine lC he2 rfl rfl Tryd.func77 (by kernel_rfl) rfl rfl (wanted_plain rfl _) rfl (cap_b _ _ _ _ pl gn w (hH.at (i := 0) rfl) hpl hD.tab) ?_
  intro w3 a4 hn he4
  have hH3 := hH.call hn
  replace hD := (hD).new hn
  clear he2 a2 hH hn
  refine lW (.pointer (some ⟨p, 0, none⟩)) he4 rfl (rn_mv rfl (he4.op rfl) w3) ?_
  intro a5 he5
  clear he4 a4
  refine lC he5 rfl rfl Tryd.func62 (by kernel_rfl) rfl rfl (wanted_plain rfl _) rfl (gone_b _ _ _ _ pl gn w3 (hH3.at (i := 0) rfl) hpl hD.tab) ?_
  intro w6 a7 hn he7
  have hH6 := hH3.call hn
  replace hD := (hD).new hn
  clear he5 a5 hH3 hn
  refine lW (.int .i64 ((pl : Int) - gn)) he7 rfl (rn_subI rfl (he7.op rfl) (he7.op rfl) (by rw [IntWalk.i64_in _ ⟨by omega, by omega⟩]) w6) ?_
  intro a8 he8
  clear he7 a7
  refine lW (.pointer (some ⟨p, 0, none⟩)) he8 rfl (rn_mv rfl (he8.op rfl) w6) ?_
  intro a9 he9
  clear he8 a8
  refine lC he9 rfl rfl Tryd.func48 (by kernel_rfl) rfl rfl (wanted_plain rfl _) rfl (len_b _ _ _ _ pl gn w6 (hH6.at (i := 0) rfl) hpl hD.tab) ?_
  intro w10 a11 hn he11
  have hH10 := hH6.call hn
  replace hD := (hD).new hn
  clear he9 a9 hH6 hn
  refine lW (.int .i64 ((pl - gn - L.length : Nat) : Int)) he11 rfl (rn_subI rfl (he11.op rfl) (he11.op rfl) (by rw [IntWalk.i64_in _ ⟨by omega, by omega⟩]; omega) w10) ?_
  intro a12 he12
  clear he11 a11
  refine lW (.int .i64 ((pl - gn - L.length : Nat) : Int)) he12 rfl (rn_asg rfl (he12.op rfl) w10) ?_
  intro a13 he13
  clear he12 a12
  refine wpList_nil (then_ok ?_)
  refine wp_ret ?_
  try simp only [Exit.then, Exit.inBlock]
  exact ret_env rfl he13 rfl ⟨rfl, hD.fr⟩
end Go.Proofs.YtlpjhaghphmbeaaDoor
