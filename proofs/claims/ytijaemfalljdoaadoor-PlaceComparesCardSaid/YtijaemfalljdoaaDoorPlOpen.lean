/-
  A place that came in: its cells, and what it reads as; what the rows' condition gives the walks.
-/
import Derived.Test.YtijaemfalljdoaaDoorPWalkB
import Derived.ChangeSame
import Derived.Stop.LaidErr
import Derived.Lib.LaidU8
import Derived.Shelf.Vars
import Derived.HandedShaped
namespace Go.Proofs.YtijaemfalljdoaaDoor
open Go.RowKit Go.ChangeShapes Go.WideShapes Go.ChangeAt

theorem wf_i64_iff (n : Int) : (Lit.int .i64 n).wf = true ↔ -9223372036854775808 ≤ n ∧ n ≤ 9223372036854775807 := by
  simp [Lit.wf, IntKind.min, IntKind.max, IntKind.bits, IntKind.signed]
theorem cells1i : Tryd.prog.cellsOf 3 = 1 := by kernel_rfl
section
variable {H : Type} {enc : TypeId × Value → H} {w : World} {base : Nat} {spare : Nat → Bool} {held : Bool}
def Pl.d (p : Pl) : DataW H := .agg [.lit (.int .i64 p.l), .lit (.int .i64 p.c)]
theorem trod_struct_mk {t : TypeId} {fs : Array Field} {n : Nat} {cs : List Value} {xs : List (DataW H × List MemPlace)} (ht : Tryd.prog.underlying t = some (.struct fs)) (hl : cs.length = Tryd.prog.cellsOf t)
    (hx : fs.toList.mapM (fun f => DataW.trod enc Tryd.prog w base spare held n f.type ((cs.drop f.offset).take (Tryd.prog.cellsOf f.type))) = some xs) :
    DataW.trod enc Tryd.prog w base spare held (n + 1) t cs = some (.agg (xs.map (·.1)), xs.flatMap (·.2)) := by
  simp [DataW.trod, ht, hl, hx]
theorem field_at {fs : Array Field} {l : List Field} (h : fs.toList = l) (j : Nat) : fs[j]? = l[j]? := by
  rw [← h, Array.getElem?_toList]
set_option maxRecDepth 8000 in
theorem open_pl {r : Reach} {b0 : Nat} {v : Value} {d : DataW H} {ps : List MemPlace} (hv : Value.okWide Tryd.prog w r b0 23 v) (h : DataW.Trod enc Tryd.prog w base spare held 23 v d ps) :
    ∃ p : Pl, v = p.v ∧ d = p.d ∧ ps = [] ∧ p.In := by
  obtain ⟨f0, f1, hl, h0, h1⟩ := parts2 _ _ fieldsZ
  obtain ⟨cs, rfl, hsz⟩ := okWide_struct undZ hv
  obtain ⟨fuel, hf⟩ := h
  obtain ⟨xs, n, _, hx, hlen, hxl, hf⟩ := DataW.trod_struct undZ hf
  have e0 := hf 0 f0 (field_at hl 0)
  have e1 := hf 1 f1 (field_at hl 1)
  simp only [Prod.mk.injEq] at h0 h1 hx
  rw [h0.2.1, h0.2.2, cells1i] at e0
  rw [h1.2.1, h1.2.2, cells1i] at e1
  rw [cellsZ2] at hlen
  have hs2 : xs.length = 2 := by rw [hxl, ← Array.length_toList, hl]; rfl
  obtain ⟨l⟩ := cs
  match l, (show l.length = 2 from hsz.trans cellsZ2) with
  | [c0, c1], _ =>
  match xs, hs2 with
  | [x0, x1], _ =>
  obtain ⟨a0, g0, rfl, w0⟩ := DataW.trod_int Tryd.underlying3 (show DataW.trod enc Tryd.prog w base spare held n 3 [c0] = some x0 from e0)
  obtain ⟨a1, g1, rfl, w1⟩ := DataW.trod_int Tryd.underlying3 (show DataW.trod enc Tryd.prog w base spare held n 3 [c1] = some x1 from e1)
  simp only [List.cons.injEq, and_true] at g0 g1
  subst g0 g1
  rw [wf_i64_iff] at w0 w1
  obtain ⟨rfl, rfl⟩ := hx
  exact ⟨⟨a0, a1⟩, rfl, rfl, rfl, ⟨w0, w1⟩⟩
set_option maxRecDepth 8000 in
theorem shut_pl (p : Pl) (hp : p.In) : DataW.Trod enc Tryd.prog w base spare held 23 p.v p.d [] := by
  obtain ⟨f0, f1, hl, h0, h1⟩ := parts2 _ _ fieldsZ
  simp only [Prod.mk.injEq] at h0 h1
  have t0 := trod_int_mk (enc := enc) (w := w) (base := base) (spare := spare) (held := held) 1 Tryd.underlying3 ((wf_i64_iff p.l).2 hp.l)
  have t1 := trod_int_mk (enc := enc) (w := w) (base := base) (spare := spare) (held := held) 1 Tryd.underlying3 ((wf_i64_iff p.c).2 hp.c)
  exact ⟨3, trod_struct_mk (n := 2) (xs := [(.lit (.int .i64 p.l), []), (.lit (.int .i64 p.c), [])]) undZ (by rw [cellsZ2]; rfl)
    (by rw [hl]; simp [List.mapM_cons, Value.cells, h0.2.1, h0.2.2, h1.2.1, h1.2.2, cells1i, t0, t1])⟩
end

set_option maxRecDepth 8000 in
theorem own : ownKnob Tryd.prog.godebug = none := by kernel_rfl
set_option maxRecDepth 8000 in
theorem gTab : Tryd.prog.globalNamed "math/bits.deBruijn64tab" = some 5 := by kernel_rfl
set_option maxRecDepth 8000 in
theorem tPow : (Tryd.prog.globals[3]?).map (·.type) = some 96 := by kernel_rfl
set_option maxRecDepth 8000 in
theorem tSyn : (Tryd.prog.globals[1]?).map (·.type) = some 68 := by kernel_rfl
set_option maxRecDepth 8000 in
theorem tRan : (Tryd.prog.globals[2]?).map (·.type) = some 68 := by kernel_rfl
set_option maxRecDepth 8000 in
theorem c20 : Tryd.prog.cellsOf 96 = 20 := by kernel_rfl
set_option maxRecDepth 8000 in
theorem c1u : Tryd.prog.cellsOf 81 = 1 := by kernel_rfl
set_option maxRecDepth 8000 in
theorem c1e : Tryd.prog.cellsOf 107 = 1 := by kernel_rfl
set_option maxRecDepth 8000 in
theorem c1s : Tryd.prog.cellsOf 9 = 1 := by kernel_rfl
theorem star : "*" ++ "errors.errorString" = "*errors.errorString" := by decide
theorem row_err (u : TypeId) (h : Tryd.prog.typeName? 3 u = some "*errors.errorString") : u = 105 :=
  typeName_ptr_named (nm := "errors.errorString") (by rw [star]; kernel_rfl) (by kernel_rfl) (by decide) u (by rw [star]; exact h)
def laid2 : List (String × DataW Unit) := [("math/bits.deBruijn32tab", Rows.laid_math_bits_deBruijn32tab), ("math/bits.deBruijn64tab", Rows.laid_math_bits_deBruijn64tab), ("internal/strconv.uint64pow10", Rows.laid_internal_strconv_uint64pow10), ("strconv.ErrRange", Rows.laid_strconv_ErrRange), ("strconv.ErrSyntax", Rows.laid_strconv_ErrSyntax)]
theorem lt_of_var {w : World} {n : String} {g : Nat} {cs : Array Value} (hg : Tryd.prog.globalNamed n = some g) (h : w.var? Tryd.prog n = some cs) : g < w.heap.size := by
  simp only [World.var?, hg, Option.bind_some] at h
  rcases Nat.lt_or_ge g w.heap.size with hlt | hge
  · exact hlt
  · rw [Array.getElem?_eq_none hge] at h; cases h
set_option maxRecDepth 8000 in
theorem tab_of_laid {W : World} (h : laidMetH Tryd.prog laid2 W) (hsh : W.ShapedOpen Tryd.prog) : Tab W := by
  rw [MakeChecks.laidMetH_plain _ _ _ (by kernel_rfl)] at h
  have h3 := h.tail.tail
  obtain ⟨g, t, cs, fuel, p, hg, ht, hv, hd⟩ := Lib.laidMet.reads h (n := "math/bits.deBruijn64tab") (d := Rows.laid_math_bits_deBruijn64tab) (.tail _ (.head _))
  obtain rfl := Option.some.inj (gTab.symm.trans hg)
  refine ⟨?_, ?_, ?_, ?_, ?_⟩
  · exact Lib.tabIs_of_head (zs := Lib.pow10Tab) gPow tPow Tryd.underlying96 Tryd.underlying81 c1u c20 h3
  · obtain ⟨a, s, h1, -⟩ := laid_sentinel h3.tail.tail gSyn tSyn Tryd.underlying68 row_err Tryd.underlying105 Tryd.underlying107 rfl rfl Tryd.underlying9 c1e c1s
    exact ⟨_, _, h1⟩
  · obtain ⟨a, s, h1, -⟩ := laid_sentinel h3.tail gRan tRan Tryd.underlying68 row_err Tryd.underlying105 Tryd.underlying107 rfl rfl Tryd.underlying9 c1e c1s
    exact ⟨_, _, h1⟩
  · have := lt_of_var gTab hv
    exact this
  · exact Tryd.laysM145.s1_3 W hsh
/-- A row whose condition is on listed variables, with the world's shape for the walk. -/
theorem handed_laid {H : Type} {enc : TypeId × Value → H} {a : Assume} {C : Checked} {os : Os} {f : FuncId} {fn : Func} {s : ChangeSpec} {conds : List PathCond} {apart fresh handsOn again : Bool} {X : World → Array Value → Prop} (hX : ∀ (w w' : World) (args : Array Value), w.heap = w'.heap → X w args → X w' args)
    (own : ownKnob C.prog.godebug = none) (started : os.Started) (noInit : C.prog.inits.idxOf? f = none) (hfn : C.prog.funcs[f]? = some fn)
    (wit : ∃ (w : World) (tape : Tape) (i : Input), w.os = os ∧ (w.forCall tape i).Shaped C.prog ∧ i.vars = [] ∧ Input.okWide C.prog (w.forCall tape i) .any w.heap.size f i ∧ ((s.pre enc C.prog fn conds apart (w.forCall tape i).memory i.args ∧ X (w.forCall tape i).memory i.args) ∧ sizedMet enc C.prog fn (OpenSpec.ofChange s) apart (w.forCall tape i).memory i.args) ∧ a.holds C.prog (lone (Frame.enter C.prog f i.args .normal) [] (w.forCall tape i)))
    (walk : ∀ (W : World) (base : Nat) (args : Array Value) (ds gs : List (DataW H)) (before : List MemPlace), (∀ (j : Nat) t v, fn.params[j]? = some t → args[j]? = some v → Value.okWide C.prog W .any base t v) → DataW.Whole enc C.prog fn.params.toList s.vars apart W args.toList ds gs before → X W args → W.ShapedOpen C.prog →
      Calls C.prog f args W fun e W' => ∃ v, e = .returned v ∧ s.post enc C.prog fn apart fresh handsOn again W args v W') :
    ReturnsInHanded a C os f .any (fun w args => (s.pre enc C.prog fn conds apart w args ∧ X w args) ∧ sizedMet enc C.prog fn (OpenSpec.ofChange s) apart w args) (s.post enc C.prog fn apart fresh handsOn again) := by
  refine returnsInHanded_of_calls own started noInit wit fun w tape i _ hsh _ hok hpre _ => ?_
  obtain ⟨_, _, _, fn', hfn', _, _, _, _, hval⟩ := hok
  obtain rfl := Option.some.inj (hfn'.symm.trans hfn)
  obtain ⟨⟨⟨ds, gs, before, hw, _⟩, hx⟩, _⟩ := hpre
  have h1 := DataW.Whole.of_heap (w' := w.forCall tape i) (by rfl) hw
  have h2 : X (w.forCall tape i) i.args := hX _ _ _ (by rfl) hx
  exact (walk _ _ _ ds gs before hval h1 h2 hsh).mono fun e W' ⟨v, he, hp⟩ => by
    subst he
    exact ChangeSpec.post_blind hp
end Go.Proofs.YtijaemfalljdoaaDoor
