/-
  A pen that came in: its cells, and what it reads as.
-/
import Derived.Test.YtaiijndldngnkaaDoorPValid
import Derived.ProofKit
import Derived.OpenShut
import Derived.ChangeSame
namespace Go.Proofs.YtaiijndldngnkaaDoor
open Go.RowKit Go.ChangeShapes Go.WideShapes

theorem wf_i64_iff (n : Int) : (Lit.int .i64 n).wf = true ↔ -9223372036854775808 ≤ n ∧ n ≤ 9223372036854775807 := by
  simp [Lit.wf, IntKind.min, IntKind.max, IntKind.bits, IntKind.signed]
theorem wf_u8_iff (n : Int) : (Lit.int .u8 n).wf = true ↔ 0 ≤ n ∧ n ≤ 255 := by
  simp [Lit.wf, IntKind.min, IntKind.max, IntKind.bits, IntKind.signed]

theorem cells11 : Tryd.prog.cellsOf 28 = 11 := by kernel_rfl
theorem cells1k : Tryd.prog.cellsOf 23 = 1 := by kernel_rfl
theorem cells1u : Tryd.prog.cellsOf 5 = 1 := by kernel_rfl
theorem cells1f : Tryd.prog.cellsOf 26 = 1 := by kernel_rfl

section
variable {H : Type} {enc : TypeId × Value → H} {w : World} {base : Nat} {spare : Nat → Bool} {held : Bool}

def Co.l (c : Co) : List Value := [.int .i64 c.k, .int .u8 c.i, .int .u8 c.r, .int .u8 c.g, .int .u8 c.b]
def Co.d (c : Co) : DataW H := .agg [.lit (.int .i64 c.k), .lit (.int .u8 c.i), .lit (.int .u8 c.r), .lit (.int .u8 c.g), .lit (.int .u8 c.b)]
def Pn.l (p : Pn) : List Value := p.fore.l ++ p.back.l ++ [.int .u8 p.fl]
def Pn.d (p : Pn) : DataW H := .agg [p.fore.d, p.back.d, .lit (.int .u8 p.fl)]

theorem trod_struct_mk {t : TypeId} {fs : Array Field} {n : Nat} {cs : List Value} {xs : List (DataW H × List MemPlace)} (ht : Tryd.prog.underlying t = some (.struct fs)) (hl : cs.length = Tryd.prog.cellsOf t)
    (hx : fs.toList.mapM (fun f => DataW.trod enc Tryd.prog w base spare held n f.type ((cs.drop f.offset).take (Tryd.prog.cellsOf f.type))) = some xs) :
    DataW.trod enc Tryd.prog w base spare held (n + 1) t cs = some (.agg (xs.map (·.1)), xs.flatMap (·.2)) := by
  simp [DataW.trod, ht, hl, hx]

theorem field_at {fs : Array Field} {l : List Field} (h : fs.toList = l) (j : Nat) : fs[j]? = l[j]? := by
  rw [← h, Array.getElem?_toList]

set_option maxRecDepth 8000 in
theorem col_of_trod {m : Nat} {cs : List Value} {y : DataW H × List MemPlace} (h : DataW.trod enc Tryd.prog w base spare held m 25 cs = some y) : ∃ c : Co, c.Ok ∧ cs = c.l ∧ y = (c.d, []) := by
  obtain ⟨f0, f1, f2, f3, f4, hl, h0, h1, h2, h3, h4⟩ := parts5 _ _ fields24
  obtain ⟨xs, n, _, rfl, hlen, hxl, hf⟩ := DataW.trod_struct und24 h
  rw [cells5] at hlen
  have e0 := hf 0 f0 (field_at hl 0)
  have e1 := hf 1 f1 (field_at hl 1)
  have e2 := hf 2 f2 (field_at hl 2)
  have e3 := hf 3 f3 (field_at hl 3)
  have e4 := hf 4 f4 (field_at hl 4)
  simp only [Prod.mk.injEq] at h0 h1 h2 h3 h4
  rw [h0.2.1, h0.2.2, cells1k] at e0
  rw [h1.2.1, h1.2.2, cells1u] at e1
  rw [h2.2.1, h2.2.2, cells1u] at e2
  rw [h3.2.1, h3.2.2, cells1u] at e3
  rw [h4.2.1, h4.2.2, cells1u] at e4
  have hs5 : xs.length = 5 := by rw [hxl, ← Array.length_toList, hl]; rfl
  match cs, hlen with
  | [c0, c1, c2, c3, c4], _ =>
  match xs, hs5 with
  | [x0, x1, x2, x3, x4], _ =>
  obtain ⟨a0, g0, rfl, w0⟩ := DataW.trod_int Tryd.underlying23 (show DataW.trod enc Tryd.prog w base spare held n 23 [c0] = some x0 from e0)
  obtain ⟨a1, g1, rfl, w1⟩ := DataW.trod_int Tryd.underlying5 (show DataW.trod enc Tryd.prog w base spare held n 5 [c1] = some x1 from e1)
  obtain ⟨a2, g2, rfl, w2⟩ := DataW.trod_int Tryd.underlying5 (show DataW.trod enc Tryd.prog w base spare held n 5 [c2] = some x2 from e2)
  obtain ⟨a3, g3, rfl, w3⟩ := DataW.trod_int Tryd.underlying5 (show DataW.trod enc Tryd.prog w base spare held n 5 [c3] = some x3 from e3)
  obtain ⟨a4, g4, rfl, w4⟩ := DataW.trod_int Tryd.underlying5 (show DataW.trod enc Tryd.prog w base spare held n 5 [c4] = some x4 from e4)
  simp only [List.cons.injEq, and_true] at g0 g1 g2 g3 g4
  subst g0 g1 g2 g3 g4
  rw [wf_i64_iff] at w0
  rw [wf_u8_iff] at w1 w2 w3 w4
  exact ⟨⟨a0, a1, a2, a3, a4⟩, ⟨w0.1, w0.2, w1.1, w1.2, w2.1, w2.2, w3.1, w3.2, w4.1, w4.2⟩, rfl, rfl⟩

theorem col_trod (c : Co) (hc : c.Ok) (n : Nat) : DataW.trod enc Tryd.prog w base spare held (n + 2) 25 c.l = some (c.d, []) := by
  obtain ⟨f0, f1, f2, f3, f4, hl, h0, h1, h2, h3, h4⟩ := parts5 _ _ fields24
  simp only [Prod.mk.injEq] at h0 h1 h2 h3 h4
  have t0 := trod_int_mk (enc := enc) (w := w) (base := base) (spare := spare) (held := held) n Tryd.underlying23 ((wf_i64_iff c.k).2 ⟨hc.k0, hc.k1⟩)
  have t1 := trod_int_mk (enc := enc) (w := w) (base := base) (spare := spare) (held := held) n Tryd.underlying5 ((wf_u8_iff c.i).2 ⟨hc.i0, hc.i1⟩)
  have t2 := trod_int_mk (enc := enc) (w := w) (base := base) (spare := spare) (held := held) n Tryd.underlying5 ((wf_u8_iff c.r).2 ⟨hc.r0, hc.r1⟩)
  have t3 := trod_int_mk (enc := enc) (w := w) (base := base) (spare := spare) (held := held) n Tryd.underlying5 ((wf_u8_iff c.g).2 ⟨hc.g0, hc.g1⟩)
  have t4 := trod_int_mk (enc := enc) (w := w) (base := base) (spare := spare) (held := held) n Tryd.underlying5 ((wf_u8_iff c.b).2 ⟨hc.b0, hc.b1⟩)
  exact trod_struct_mk (xs := [(.lit (.int .i64 c.k), []), (.lit (.int .u8 c.i), []), (.lit (.int .u8 c.r), []), (.lit (.int .u8 c.g), []), (.lit (.int .u8 c.b), [])]) und24 (by rw [cells5]; rfl)
    (by rw [hl]; simp [List.mapM_cons, Co.l, h0.2.1, h0.2.2, h1.2.1, h1.2.2, h2.2.1, h2.2.2, h3.2.1, h3.2.2, h4.2.1, h4.2.2, cells1k, cells1u, t0, t1, t2, t3, t4])

theorem open_pen {r : Reach} {b0 : Nat} {v : Value} {d : DataW H} {ps : List MemPlace} (hv : Value.okWide Tryd.prog w r b0 28 v) (h : DataW.Trod enc Tryd.prog w base spare held 28 v d ps) :
    ∃ p : Pn, v = p.v ∧ d = p.d ∧ ps = [] ∧ p.Ok := by
  obtain ⟨f0, f1, f2, hl, h0, h1, h2⟩ := parts3 _ _ fields27
  obtain ⟨cs, rfl, hsz⟩ := okWide_struct und27 hv
  obtain ⟨fuel, hf⟩ := h
  obtain ⟨xs, n, _, hx, hlen, hxl, hf⟩ := DataW.trod_struct und27 hf
  have e0 := hf 0 f0 (field_at hl 0)
  have e1 := hf 1 f1 (field_at hl 1)
  have e2 := hf 2 f2 (field_at hl 2)
  simp only [Prod.mk.injEq] at h0 h1 h2 hx
  rw [h0.2.1, h0.2.2, cells5] at e0
  rw [h1.2.1, h1.2.2, cells5] at e1
  rw [h2.2.1, h2.2.2, cells1f] at e2
  rw [cells11] at hlen
  have hs3 : xs.length = 3 := by rw [hxl, ← Array.length_toList, hl]; rfl
  obtain ⟨l⟩ := cs
  match l, (show l.length = 11 from hsz.trans cells11) with
  | [c0, c1, c2, c3, c4, c5, c6, c7, c8, c9, c10], _ =>
  match xs, hs3 with
  | [x0, x1, x2], _ =>
  obtain ⟨c, hc, g0, rfl⟩ := col_of_trod (show DataW.trod enc Tryd.prog w base spare held n 25 [c0, c1, c2, c3, c4] = some x0 from e0)
  obtain ⟨c', hc', g1, rfl⟩ := col_of_trod (show DataW.trod enc Tryd.prog w base spare held n 25 [c5, c6, c7, c8, c9] = some x1 from e1)
  obtain ⟨a, g2, rfl, w2⟩ := DataW.trod_int Tryd.underlying26 (show DataW.trod enc Tryd.prog w base spare held n 26 [c10] = some x2 from e2)
  simp only [Co.l, List.cons.injEq, and_true] at g0 g1 g2
  obtain ⟨rfl, rfl, rfl, rfl, rfl⟩ := g0
  obtain ⟨rfl, rfl, rfl, rfl, rfl⟩ := g1
  subst g2
  rw [wf_u8_iff] at w2
  obtain ⟨rfl, rfl⟩ := hx
  exact ⟨⟨c, c', a⟩, rfl, rfl, rfl, ⟨hc, hc', w2.1, w2.2⟩⟩

theorem shut_pen (p : Pn) (hp : p.Ok) : DataW.Trod enc Tryd.prog w base spare held 28 p.v p.d [] := by
  obtain ⟨f0, f1, f2, hl, h0, h1, h2⟩ := parts3 _ _ fields27
  simp only [Prod.mk.injEq] at h0 h1 h2
  have t0 := col_trod (enc := enc) (w := w) (base := base) (spare := spare) (held := held) p.fore hp.fore 0
  have t1 := col_trod (enc := enc) (w := w) (base := base) (spare := spare) (held := held) p.back hp.back 0
  have t2 := trod_int_mk (enc := enc) (w := w) (base := base) (spare := spare) (held := held) 1 Tryd.underlying26 ((wf_u8_iff p.fl).2 ⟨hp.f0, hp.f1⟩)
  simp only [Co.l] at t0 t1
  exact ⟨3, trod_struct_mk (n := 2) (xs := [(p.fore.d, []), (p.back.d, []), (.lit (.int .u8 p.fl), [])]) und27 (by rw [cells11]; rfl)
    (by rw [hl]; simp [List.mapM_cons, Value.cells, h0.2.1, h0.2.2, h1.2.1, h1.2.2, h2.2.1, h2.2.2, cells5, cells1f, t0, t1, t2])⟩
end

end Go.Proofs.YtaiijndldngnkaaDoor
