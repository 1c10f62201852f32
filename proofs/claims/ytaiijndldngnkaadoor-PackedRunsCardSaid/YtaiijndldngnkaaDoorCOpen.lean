/-
  An argument that is a cell, opened and shut.
-/
import Derived.Test.YtaiijndldngnkaaDoorPOpen
import Derived.Test.YtaiijndldngnkaaDoorCLeaf
import Derived.Laws.IdiomArrays
namespace Go.Proofs.YtaiijndldngnkaaDoor
open Go.RowKit Go.ChangeShapes Go.WideShapes

theorem wf_i32_iff (n : Int) : (Lit.int .i32 n).wf = true ↔ -2147483648 ≤ n ∧ n ≤ 2147483647 := by
  simp [Lit.wf, IntKind.min, IntKind.max, IntKind.bits, IntKind.signed]
theorem cells1w : Tryd.prog.cellsOf 3 = 1 := by kernel_rfl

section
variable {H : Type} {enc : TypeId × Value → H} {w : World} {base : Nat} {spare : Nat → Bool} {held : Bool}
def Ce.d (c : Ce) : DataW H := .agg [.lit (.int .i32 c.r), .agg [.lit (.int .i32 c.m0), .lit (.int .i32 c.m1), .lit (.int .i32 c.m2)], .lit (.int .i64 c.wd), c.p.d]

set_option maxRecDepth 8000 in
theorem pen_of_trod {m : Nat} {cs : List Value} {y : DataW H × List MemPlace} (h : DataW.trod enc Tryd.prog w base spare held m 28 cs = some y) : ∃ p : Pn, p.Ok ∧ cs = p.l ∧ y = (p.d, []) := by
  obtain ⟨f0, f1, f2, hl, h0, h1, h2⟩ := parts3 _ _ fields27
  obtain ⟨xs, n, _, rfl, hlen, hxl, hf⟩ := DataW.trod_struct und27 h
  have e0 := hf 0 f0 (field_at hl 0)
  have e1 := hf 1 f1 (field_at hl 1)
  have e2 := hf 2 f2 (field_at hl 2)
  simp only [Prod.mk.injEq] at h0 h1 h2
  rw [h0.2.1, h0.2.2, cells5] at e0
  rw [h1.2.1, h1.2.2, cells5] at e1
  rw [h2.2.1, h2.2.2, cells1f] at e2
  rw [cells11] at hlen
  have hs3 : xs.length = 3 := by rw [hxl, ← Array.length_toList, hl]; rfl
  match cs, hlen with
  | [c0, c1, c2, c3, c4, c5, c6, c7, c8, c9, c10], _ =>
  match xs, hs3 with
  | [x0, x1, x2], _ =>
  obtain ⟨c, hc, g0, rfl⟩ := col_of_trod (show DataW.trod enc Tryd.prog w base spare held n 25 [c0, c1, c2, c3, c4] = some x0 from e0)
  obtain ⟨c', hc', g1, rfl⟩ := col_of_trod (show DataW.trod enc Tryd.prog w base spare held n 25 [c5, c6, c7, c8, c9] = some x1 from e1)
  obtain ⟨a, g2, rfl, w2⟩ := DataW.trod_int Tryd.underlying26 (show DataW.trod enc Tryd.prog w base spare held n 26 [c10] = some x2 from e2)
  simp only [Co.l, List.cons.injEq, and_true] at g0 g1 g2
  obtain ⟨rfl, rfl, rfl, rfl, rfl⟩ := g0
  obtain ⟨rfl, rfl, rfl, rfl, rfl⟩ := g1
  subst g2
  rw [wf_u8_iff] at w2
  exact ⟨⟨c, c', a⟩, ⟨hc, hc', w2.1, w2.2⟩, rfl, rfl⟩

set_option maxRecDepth 8000 in
theorem cell_of_trod {m : Nat} {cs : List Value} {y : DataW H × List MemPlace} (h : DataW.trod enc Tryd.prog w base spare held m 30 cs = some y) : ∃ c : Ce, c.Ok ∧ cs = c.ls ∧ y = (c.d, []) := by
  obtain ⟨f0, f1, f2, f3, hl, h0, h1, h2, h3⟩ := parts4 _ _ fieldsC
  obtain ⟨xs, n, _, rfl, hlen, hxl, hf⟩ := DataW.trod_struct undC h
  have e0 := hf 0 f0 (field_at hl 0)
  have e1 := hf 1 f1 (field_at hl 1)
  have e2 := hf 2 f2 (field_at hl 2)
  have e3 := hf 3 f3 (field_at hl 3)
  simp only [Prod.mk.injEq] at h0 h1 h2 h3
  rw [h0.2.1, h0.2.2, cells1r] at e0
  rw [h1.2.1, h1.2.2, cells3m] at e1
  rw [h2.2.1, h2.2.2, cells1w] at e2
  rw [h3.2.1, h3.2.2, cells11p] at e3
  rw [cells16] at hlen
  have hs4 : xs.length = 4 := by rw [hxl, ← Array.length_toList, hl]; rfl
  match cs, hlen with
  | [c0, c1, c2, c3, c4, c5, c6, c7, c8, c9, c10, c11, c12, c13, c14, c15], _ =>
  match xs, hs4 with
  | [x0, x1, x2, x3], _ =>
  obtain ⟨r, g0, rfl, w0⟩ := DataW.trod_int Tryd.underlying21 (show DataW.trod enc Tryd.prog w base spare held n 21 [c0] = some x0 from e0)
  obtain ⟨y0, y1, y2, k, rfl, t0, t1, t2⟩ := trod_array3 Tryd.underlying22 cells1r (show DataW.trod enc Tryd.prog w base spare held n 22 [c1, c2, c3] = some x1 from e1)
  obtain ⟨m0, k0, rfl, v0⟩ := DataW.trod_int Tryd.underlying21 t0
  obtain ⟨m1, k1, rfl, v1⟩ := DataW.trod_int Tryd.underlying21 t1
  obtain ⟨m2, k2, rfl, v2⟩ := DataW.trod_int Tryd.underlying21 t2
  obtain ⟨d, g2, rfl, w2⟩ := DataW.trod_int Tryd.underlying3 (show DataW.trod enc Tryd.prog w base spare held n 3 [c4] = some x2 from e2)
  obtain ⟨p, hp, g3, rfl⟩ := pen_of_trod (show DataW.trod enc Tryd.prog w base spare held n 28 [c5, c6, c7, c8, c9, c10, c11, c12, c13, c14, c15] = some x3 from e3)
  simp only [Pn.l, Co.l, List.cons_append, List.nil_append, List.cons.injEq, and_true] at g0 k0 k1 k2 g2 g3
  obtain ⟨rfl, rfl, rfl, rfl, rfl, rfl, rfl, rfl, rfl, rfl, rfl⟩ := g3
  subst g0 k0 k1 k2 g2
  rw [wf_i32_iff] at w0 v0 v1 v2
  rw [wf_i64_iff] at w2
  exact ⟨⟨r, m0, m1, m2, d, p⟩, ⟨w0.1, w0.2, v0.1, v0.2, v1.1, v1.2, v2.1, v2.2, w2.1, w2.2, hp⟩, rfl, rfl⟩

set_option maxRecDepth 8000 in
theorem open_cell {r : Reach} {b0 : Nat} {v : Value} {d : DataW H} {ps : List MemPlace} (hv : Value.okWide Tryd.prog w r b0 30 v) (h : DataW.Trod enc Tryd.prog w base spare held 30 v d ps) :
    ∃ c : Ce, v = c.v ∧ d = c.d ∧ ps = [] ∧ c.Ok := by
  obtain ⟨cs, rfl, hsz⟩ := okWide_struct undC hv
  obtain ⟨fuel, hf⟩ := h
  obtain ⟨c, hc, e1, e2⟩ := cell_of_trod hf
  simp only [Prod.mk.injEq] at e2
  obtain ⟨rfl, rfl⟩ := e2
  refine ⟨c, ?_, rfl, rfl, hc⟩
  have e3 : cs.toList = c.ls := e1
  have e4 : cs = c.cs := by
    apply Array.ext'
    rw [e3]
    rfl
  rw [e4]

set_option maxRecDepth 8000 in
theorem pen_trod (p : Pn) (hp : p.Ok) (n : Nat) : DataW.trod enc Tryd.prog w base spare held (n + 3) 28 p.l = some (p.d, []) := by
  obtain ⟨f0, f1, f2, hl, h0, h1, h2⟩ := parts3 _ _ fields27
  simp only [Prod.mk.injEq] at h0 h1 h2
  have t0 := col_trod (enc := enc) (w := w) (base := base) (spare := spare) (held := held) p.fore hp.fore n
  have t1 := col_trod (enc := enc) (w := w) (base := base) (spare := spare) (held := held) p.back hp.back n
  have t2 := trod_int_mk (enc := enc) (w := w) (base := base) (spare := spare) (held := held) (n + 1) Tryd.underlying26 ((wf_u8_iff p.fl).2 ⟨hp.f0, hp.f1⟩)
  simp only [Co.l] at t0 t1
  exact trod_struct_mk (n := n + 2) (xs := [(p.fore.d, []), (p.back.d, []), (.lit (.int .u8 p.fl), [])]) und27 (by rw [cells11]; rfl)
    (by rw [hl]; simp [List.mapM_cons, Pn.l, Co.l, h0.2.1, h0.2.2, h1.2.1, h1.2.2, h2.2.1, h2.2.2, cells5, cells1f, t0, t1, t2])

theorem marks_trod (a b c : Int) (ha : -2147483648 ≤ a ∧ a ≤ 2147483647) (hb : -2147483648 ≤ b ∧ b ≤ 2147483647) (hc : -2147483648 ≤ c ∧ c ≤ 2147483647) (n : Nat) :
    DataW.trod enc Tryd.prog w base spare held (n + 2) 22 [.int .i32 a, .int .i32 b, .int .i32 c] = some (.agg [.lit (.int .i32 a), .lit (.int .i32 b), .lit (.int .i32 c)], []) := by
  have t0 := trod_int_mk (enc := enc) (w := w) (base := base) (spare := spare) (held := held) n Tryd.underlying21 ((wf_i32_iff a).2 ha)
  have t1 := trod_int_mk (enc := enc) (w := w) (base := base) (spare := spare) (held := held) n Tryd.underlying21 ((wf_i32_iff b).2 hb)
  have t2 := trod_int_mk (enc := enc) (w := w) (base := base) (spare := spare) (held := held) n Tryd.underlying21 ((wf_i32_iff c).2 hc)
  unfold DataW.trod
  rw [Tryd.underlying22]
  have r3 : List.range 3 = [0, 1, 2] := rfl
  simp [cells3m, cells1r, r3, t0, t1, t2]
set_option maxRecDepth 8000 in
theorem cell_trod (c : Ce) (hc : c.Ok) (n : Nat) : DataW.trod enc Tryd.prog w base spare held (n + 4) 30 c.ls = some (c.d, []) := by
  obtain ⟨f0, f1, f2, f3, hl, h0, h1, h2, h3⟩ := parts4 _ _ fieldsC
  simp only [Prod.mk.injEq] at h0 h1 h2 h3
  have t0 := trod_int_mk (enc := enc) (w := w) (base := base) (spare := spare) (held := held) (n + 2) Tryd.underlying21 ((wf_i32_iff c.r).2 ⟨hc.r0, hc.r1⟩)
  have t1 := marks_trod (enc := enc) (w := w) (base := base) (spare := spare) (held := held) c.m0 c.m1 c.m2 ⟨hc.a0, hc.a1⟩ ⟨hc.b0, hc.b1⟩ ⟨hc.c0, hc.c1⟩ (n + 1)
  have t2 := trod_int_mk (enc := enc) (w := w) (base := base) (spare := spare) (held := held) (n + 2) Tryd.underlying3 ((wf_i64_iff c.wd).2 ⟨hc.w0, hc.w1⟩)
  have t3 := pen_trod (enc := enc) (w := w) (base := base) (spare := spare) (held := held) c.p hc.p n
  simp only [Pn.l, Co.l, List.cons_append, List.nil_append] at t3
  exact trod_struct_mk (n := n + 3) (xs := [(.lit (.int .i32 c.r), []), (.agg [.lit (.int .i32 c.m0), .lit (.int .i32 c.m1), .lit (.int .i32 c.m2)], []), (.lit (.int .i64 c.wd), []), (c.p.d, [])]) undC (by rw [cells16]; rfl)
    (by rw [hl]; simp [List.mapM_cons, Ce.ls, h0.2.1, h0.2.2, h1.2.1, h1.2.2, h2.2.1, h2.2.2, h3.2.1, h3.2.2, cells1r, cells3m, cells1w, cells11p, t0, t1, t2, t3])
theorem shut_cell (c : Ce) (hc : c.Ok) : DataW.Trod enc Tryd.prog w base spare held 30 c.v c.d [] := ⟨4, cell_trod c hc 0⟩
end

end Go.Proofs.YtaiijndldngnkaaDoor
