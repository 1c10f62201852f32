/-
  A pen that came in: its cells, and what it reads as.
  An argument that is a cell, opened and shut.
  Arguments opened: words, slices of cells (each with what its type allows), slices of runs.
  Arguments opened: slices of cells, lines.
-/
import Derived.Test.YtlpjhaghphmbeaaDoorA1
import Derived.ProofKit
import Derived.OpenShut
import Derived.ChangeSame
import Derived.Test.YtlpjhaghphmbeaaDoorA2
import Derived.Laws.IdiomArrays
import Derived.Test.YtlpjhaghphmbeaaDoorA7
import Derived.Deep.Slices
import Derived.Test.YtlpjhaghphmbeaaDoorA8
namespace Go.Proofs.YtlpjhaghphmbeaaDoor
open Go.RowKit Go.ChangeShapes Go.WideShapes

theorem wf_i64_iff (n : Int) : (Lit.int .i64 n).wf = true ↔ -9223372036854775808 ≤ n ∧ n ≤ 9223372036854775807 := by
  simp [Lit.wf, IntKind.min, IntKind.max, IntKind.bits, IntKind.signed]
theorem wf_u8_iff (n : Int) : (Lit.int .u8 n).wf = true ↔ 0 ≤ n ∧ n ≤ 255 := by
  simp [Lit.wf, IntKind.min, IntKind.max, IntKind.bits, IntKind.signed]

theorem cells11 : Tryd.prog.cellsOf 93 = 11 := by kernel_rfl
theorem cells1k : Tryd.prog.cellsOf 88 = 1 := by kernel_rfl
theorem cells1u : Tryd.prog.cellsOf 5 = 1 := by kernel_rfl
theorem cells1f : Tryd.prog.cellsOf 91 = 1 := by kernel_rfl

section
variable {H : Type} {enc : TypeId × Value → H} {w : World} {base : Nat} {spare : Nat → Bool} {held : Bool}

def Co.l (c : Co) : List Value := [.int .i64 c.k, .int .u8 c.i, .int .u8 c.r, .int .u8 c.g, .int .u8 c.b]
def Co.d (c : Co) : DataW H := .agg [.lit (.int .i64 c.k), .lit (.int .u8 c.i), .lit (.int .u8 c.r), .lit (.int .u8 c.g), .lit (.int .u8 c.b)]
def Pn.l (p : Pn) : List Value := p.fore.l ++ p.back.l ++ [.int .u8 p.fl]
def Pn.d (p : Pn) : DataW H := .agg [p.fore.d, p.back.d, .lit (.int .u8 p.fl)]

theorem field_at {fs : Array Field} {l : List Field} (h : fs.toList = l) (j : Nat) : fs[j]? = l[j]? := by
  rw [← h, Array.getElem?_toList]

set_option maxRecDepth 8000 in
theorem col_of_trod {m : Nat} {cs : List Value} {y : DataW H × List MemPlace} (h : DataW.trod enc Tryd.prog w base spare held m 90 cs = some y) : ∃ c : Co, c.Ok ∧ cs = c.l ∧ y = (c.d, []) := by
  obtain ⟨f0, f1, f2, f3, f4, hl, h0, h1, h2, h3, h4⟩ := parts5 _ _ fields24
  obtain ⟨xs, n, _, rfl, hlen, hxl, hf⟩ := DataW.trod_struct und24 h
  rw [cells5] at hlen
  have e0 := hf 0 f0 (field_at hl 0)
  have e1 := hf 1 f1 (field_at hl 1)
  have e2 := hf 2 f2 (field_at hl 2)
  have e3 := hf 3 f3 (field_at hl 3)
  have e4 := hf 4 f4 (field_at hl 4)
  simp only [Prod.mk.injEq] at h0 h1 h2 h3 h4
  rw [h0.2.1, h0.2.2, cells1k] at e0
  rw [h1.2.1, h1.2.2, cells1u] at e1
  rw [h2.2.1, h2.2.2, cells1u] at e2
  rw [h3.2.1, h3.2.2, cells1u] at e3
  rw [h4.2.1, h4.2.2, cells1u] at e4
  have hs5 : xs.length = 5 := by rw [hxl, ← Array.length_toList, hl]; rfl
  match cs, hlen with
  | [c0, c1, c2, c3, c4], _ =>
  match xs, hs5 with
  | [x0, x1, x2, x3, x4], _ =>
  obtain ⟨a0, g0, rfl, w0⟩ := DataW.trod_int Tryd.underlying88 (show DataW.trod enc Tryd.prog w base spare held n 88 [c0] = some x0 from e0)
  obtain ⟨a1, g1, rfl, w1⟩ := DataW.trod_int Tryd.underlying5 (show DataW.trod enc Tryd.prog w base spare held n 5 [c1] = some x1 from e1)
  obtain ⟨a2, g2, rfl, w2⟩ := DataW.trod_int Tryd.underlying5 (show DataW.trod enc Tryd.prog w base spare held n 5 [c2] = some x2 from e2)
  obtain ⟨a3, g3, rfl, w3⟩ := DataW.trod_int Tryd.underlying5 (show DataW.trod enc Tryd.prog w base spare held n 5 [c3] = some x3 from e3)
  obtain ⟨a4, g4, rfl, w4⟩ := DataW.trod_int Tryd.underlying5 (show DataW.trod enc Tryd.prog w base spare held n 5 [c4] = some x4 from e4)
  simp only [List.cons.injEq, and_true] at g0 g1 g2 g3 g4
  subst g0 g1 g2 g3 g4
  rw [wf_i64_iff] at w0
  rw [wf_u8_iff] at w1 w2 w3 w4
  exact ⟨⟨a0, a1, a2, a3, a4⟩, ⟨w0.1, w0.2, w1.1, w1.2, w2.1, w2.2, w3.1, w3.2, w4.1, w4.2⟩, rfl, rfl⟩

end

end Go.Proofs.YtlpjhaghphmbeaaDoor
namespace Go.Proofs.YtlpjhaghphmbeaaDoor
open Go.RowKit Go.ChangeShapes Go.WideShapes

theorem wf_i32_iff (n : Int) : (Lit.int .i32 n).wf = true ↔ -2147483648 ≤ n ∧ n ≤ 2147483647 := by
  simp [Lit.wf, IntKind.min, IntKind.max, IntKind.bits, IntKind.signed]
theorem cells1w : Tryd.prog.cellsOf 3 = 1 := by kernel_rfl

section
variable {H : Type} {enc : TypeId × Value → H} {w : World} {base : Nat} {spare : Nat → Bool} {held : Bool}
def Ce.d (c : Ce) : DataW H := .agg [.lit (.int .i32 c.r), .agg [.lit (.int .i32 c.m0), .lit (.int .i32 c.m1), .lit (.int .i32 c.m2)], .lit (.int .i64 c.wd), c.p.d]

set_option maxRecDepth 8000 in
theorem pen_of_trod {m : Nat} {cs : List Value} {y : DataW H × List MemPlace} (h : DataW.trod enc Tryd.prog w base spare held m 93 cs = some y) : ∃ p : Pn, p.Ok ∧ cs = p.l ∧ y = (p.d, []) := by
  obtain ⟨f0, f1, f2, hl, h0, h1, h2⟩ := parts3 _ _ fields27
  obtain ⟨xs, n, _, rfl, hlen, hxl, hf⟩ := DataW.trod_struct und27 h
  have e0 := hf 0 f0 (field_at hl 0)
  have e1 := hf 1 f1 (field_at hl 1)
  have e2 := hf 2 f2 (field_at hl 2)
  simp only [Prod.mk.injEq] at h0 h1 h2
  rw [h0.2.1, h0.2.2, cells5] at e0
  rw [h1.2.1, h1.2.2, cells5] at e1
  rw [h2.2.1, h2.2.2, cells1f] at e2
  rw [cells11] at hlen
  have hs3 : xs.length = 3 := by rw [hxl, ← Array.length_toList, hl]; rfl
  match cs, hlen with
  | [c0, c1, c2, c3, c4, c5, c6, c7, c8, c9, c10], _ =>
  match xs, hs3 with
  | [x0, x1, x2], _ =>
  obtain ⟨c, hc, g0, rfl⟩ := col_of_trod (show DataW.trod enc Tryd.prog w base spare held n 90 [c0, c1, c2, c3, c4] = some x0 from e0)
  obtain ⟨c', hc', g1, rfl⟩ := col_of_trod (show DataW.trod enc Tryd.prog w base spare held n 90 [c5, c6, c7, c8, c9] = some x1 from e1)
  obtain ⟨a, g2, rfl, w2⟩ := DataW.trod_int Tryd.underlying91 (show DataW.trod enc Tryd.prog w base spare held n 91 [c10] = some x2 from e2)
  simp only [Co.l, List.cons.injEq, and_true] at g0 g1 g2
  obtain ⟨rfl, rfl, rfl, rfl, rfl⟩ := g0
  obtain ⟨rfl, rfl, rfl, rfl, rfl⟩ := g1
  subst g2
  rw [wf_u8_iff] at w2
  exact ⟨⟨c, c', a⟩, ⟨hc, hc', w2.1, w2.2⟩, rfl, rfl⟩

set_option maxRecDepth 8000 in
theorem cell_of_trod {m : Nat} {cs : List Value} {y : DataW H × List MemPlace} (h : DataW.trod enc Tryd.prog w base spare held m 95 cs = some y) : ∃ c : Ce, c.Ok ∧ cs = c.ls ∧ y = (c.d, []) := by
  obtain ⟨f0, f1, f2, f3, hl, h0, h1, h2, h3⟩ := parts4 _ _ fieldsC
  obtain ⟨xs, n, _, rfl, hlen, hxl, hf⟩ := DataW.trod_struct undC h
  have e0 := hf 0 f0 (field_at hl 0)
  have e1 := hf 1 f1 (field_at hl 1)
  have e2 := hf 2 f2 (field_at hl 2)
  have e3 := hf 3 f3 (field_at hl 3)
  simp only [Prod.mk.injEq] at h0 h1 h2 h3
  rw [h0.2.1, h0.2.2, cells1r] at e0
  rw [h1.2.1, h1.2.2, cells3m] at e1
  rw [h2.2.1, h2.2.2, cells1w] at e2
  rw [h3.2.1, h3.2.2, cells11p] at e3
  rw [cells16] at hlen
  have hs4 : xs.length = 4 := by rw [hxl, ← Array.length_toList, hl]; rfl
  match cs, hlen with
  | [c0, c1, c2, c3, c4, c5, c6, c7, c8, c9, c10, c11, c12, c13, c14, c15], _ =>
  match xs, hs4 with
  | [x0, x1, x2, x3], _ =>
  obtain ⟨r, g0, rfl, w0⟩ := DataW.trod_int Tryd.underlying21 (show DataW.trod enc Tryd.prog w base spare held n 21 [c0] = some x0 from e0)
  obtain ⟨y0, y1, y2, k, rfl, t0, t1, t2⟩ := trod_array3 Tryd.underlying87 cells1r (show DataW.trod enc Tryd.prog w base spare held n 87 [c1, c2, c3] = some x1 from e1)
  obtain ⟨m0, k0, rfl, v0⟩ := DataW.trod_int Tryd.underlying21 t0
  obtain ⟨m1, k1, rfl, v1⟩ := DataW.trod_int Tryd.underlying21 t1
  obtain ⟨m2, k2, rfl, v2⟩ := DataW.trod_int Tryd.underlying21 t2
  obtain ⟨d, g2, rfl, w2⟩ := DataW.trod_int Tryd.underlying3 (show DataW.trod enc Tryd.prog w base spare held n 3 [c4] = some x2 from e2)
  obtain ⟨p, hp, g3, rfl⟩ := pen_of_trod (show DataW.trod enc Tryd.prog w base spare held n 93 [c5, c6, c7, c8, c9, c10, c11, c12, c13, c14, c15] = some x3 from e3)
  simp only [Pn.l, Co.l, List.cons_append, List.nil_append, List.cons.injEq, and_true] at g0 k0 k1 k2 g2 g3
  obtain ⟨rfl, rfl, rfl, rfl, rfl, rfl, rfl, rfl, rfl, rfl, rfl⟩ := g3
  subst g0 k0 k1 k2 g2
  rw [wf_i32_iff] at w0 v0 v1 v2
  rw [wf_i64_iff] at w2
  exact ⟨⟨r, m0, m1, m2, d, p⟩, ⟨w0.1, w0.2, v0.1, v0.2, v1.1, v1.2, v2.1, v2.2, w2.1, w2.2, hp⟩, rfl, rfl⟩

end

end Go.Proofs.YtlpjhaghphmbeaaDoor
namespace Go.Proofs.YtlpjhaghphmbeaaDoor
open Go.RowKit Go.ChangeShapes Go.WideShapes Go.Deep

section
variable {H : Type} {enc : TypeId × Value → H} {w : World} {base : Nat} {spare : Nat → Bool} {held : Bool}
def Wd.d (x : Wd) : DataW H := .agg [.lit (.int .u64 x.a), .lit (.int .u64 x.b), .lit (.int .u64 x.c)]
/-- What a walk is told of a slice of cells, or of runs, that came in. -/
def RowK (w : World) (A : Option Addr) (len : Nat) (l : List Ce) : Prop := ∃ b, RdC w b A len l ∧ ∀ c ∈ l, c.Ok
theorem zeroCe_ok : zeroCe.Ok := by refine ⟨?_, ?_, ?_, ?_, ?_, ?_, ?_, ?_, ?_, ?_, zeroP_ok⟩ <;> decide
theorem open_row {α : Type} (R : Rec α) (ok : α → Prop) (c0 : α) (hc0 : ok c0) {sl : TypeId} (hsl : R.sl = sl) (hsz : Tryd.prog.cellsOf R.ty = R.sz) (hnum : ∀ c, ∃ k n, (R.ls c)[0]? = some (.int k n))
    (opn : ∀ {m : Nat} {cs : List Value} {y : DataW H × List MemPlace}, DataW.trod enc Tryd.prog w base spare held m R.ty cs = some y → ∃ c, ok c ∧ cs = R.ls c)
    {fuel : Nat} {cs : List Value} {x : DataW H × List MemPlace} (h : DataW.trod enc Tryd.prog w base spare held fuel sl cs = some x) :
    ∃ (A : Option Addr) (len cap : Nat) (l : List α), cs = [.slice A len cap] ∧ ∃ b, RdG R w b A len l ∧ ∀ c ∈ l, ok c := by
  rcases open_slice (hsl ▸ R.und) h with ⟨rfl, _⟩ | ⟨a, len, cap, m, n, D, Pl, rfl, hb, hl, hm, hmm, hx, hi⟩
  · exact ⟨none, 0, 0, [], rfl, 0, RdG.nil _ _ _, fun c hc => by cases hc⟩
  refine ⟨some a, len, cap, ?_⟩
  have hlm : len ≤ m := by rw [hmm]; split <;> omega
  have key : ∀ i, ∃ c : α, ok c ∧ (i < len → ∀ j, j < R.sz → w.cell? (a.add (i * R.sz + j)) = (R.ls c)[j]?) := by
    intro i
    by_cases hil : i < len
    · obtain ⟨cs', hcs, ht⟩ := hi i (by omega)
      obtain ⟨c, hc, rfl⟩ := opn ht
      rw [hsz] at hcs
      obtain ⟨_, _, hat⟩ := World.cells?_some hcs
      exact ⟨c, hc, fun _ j hj => by rw [← Go.Deep.add_add]; exact hat j hj⟩
    · exact ⟨c0, hc0, fun h => absurd h hil⟩
  obtain ⟨f, hf⟩ := Classical.axiomOfChoice key
  refine ⟨(List.range len).map f, rfl, a.block, ⟨by simp, fun h0 => ?_⟩, fun c hc => ?_⟩
  · obtain ⟨b, off, spot⟩ := a
    have h1 := (hf 0).2 h0 0 R.pos
    obtain ⟨k, z, hz⟩ := hnum (f 0)
    have h1' : w.cell? ((⟨b, off, spot⟩ : Addr).add 0) = some (.int k z) := by rw [← hz, ← h1, Nat.zero_mul]
    have hs : spot = none := by simpa [Addr.add] using World.cell?_spot h1'
    subst hs
    refine ⟨off, rfl, ?_, fun j hj => ?_⟩
    · rw [addr_add] at h1'
      exact World.block_lt_of_cell? w _ h1'
    · have hd : j / R.sz < len := Nat.div_lt_of_lt_mul (by rw [Nat.mul_comm]; exact hj)
      have hmd : j % R.sz < R.sz := Nat.mod_lt _ R.pos
      have e : j / R.sz * R.sz + j % R.sz = j := by rw [Nat.mul_comm]; exact Nat.div_add_mod j R.sz
      have h2 := (hf (j / R.sz)).2 hd (j % R.sz) hmd
      rw [addr_add, e] at h2
      rw [h2]
      have h3 := flatG_at R ((List.range len).map f) (j / R.sz) (j % R.sz) (by simp only [List.length_map, List.length_range]; exact hd) hmd
      rw [e] at h3
      rw [h3]
      simp
  · obtain ⟨i, _, rfl⟩ := List.mem_map.1 hc
    exact (hf i).1
theorem open_cellsK {fuel : Nat} {cs : List Value} {x : DataW H × List MemPlace} (h : DataW.trod enc Tryd.prog w base spare held fuel 34 cs = some x) :
    ∃ (A : Option Addr) (len cap : Nat) (l : List Ce), cs = [.slice A len cap] ∧ RowK w A len l :=
  open_row rC Ce.Ok zeroCe zeroCe_ok rfl cells16 (fun c => ⟨.i32, c.r, rfl⟩) (fun h => let ⟨c, h1, h2, _⟩ := cell_of_trod h; ⟨c, h1, h2⟩) h
end
end Go.Proofs.YtlpjhaghphmbeaaDoor
namespace Go.Proofs.YtlpjhaghphmbeaaDoor
open Go.RowKit Go.ChangeShapes Go.WideShapes Go.Deep

theorem fieldsL : (Tryd.prog.fieldsOf 36).toList.map (fun f => (f.name, f.type, f.offset)) = [("Cells", 34, 0), ("Soft", 4, 1)] := by kernel_rfl
theorem cells2L : Tryd.prog.cellsOf 36 = 2 := by kernel_rfl
theorem cells1s : Tryd.prog.cellsOf 34 = 1 := by kernel_rfl
theorem cells1b : Tryd.prog.cellsOf 4 = 1 := by kernel_rfl
section
variable {H : Type} {enc : TypeId × Value → H} {w : World} {base : Nat} {spare : Nat → Bool} {held : Bool}
theorem sl_of_trod {fuel : Nat} {cs : List Value} {x : DataW H × List MemPlace} (h : DataW.trod enc Tryd.prog w base spare held fuel 34 cs = some x) :
    ∃ (A : Option Addr) (len cap : Nat) (l : List Ce), cs = [.slice A len cap] ∧ SlC w (.slice A len cap) l := by
  obtain ⟨A, len, cap, l, rfl, b, hr, _⟩ := open_cellsK h
  refine ⟨A, len, cap, l, rfl, SlC.mk hr ?_⟩
  rcases open_slice Tryd.underlying34 h with ⟨e, _⟩ | ⟨a, len', cap', m, n, D, Pl, e, hb, hl, _⟩
  · simp only [List.cons.injEq, Value.slice.injEq, and_true] at e
    omega
  · simp only [List.cons.injEq, Value.slice.injEq, and_true] at e
    obtain ⟨-, rfl, rfl⟩ := e
    exact hl
theorem open_sl {t : TypeId} {v : Value} {d : DataW H} {ps : List MemPlace} {a : Option Addr} {len cap : Nat} (ht : t = 34) (hv : v = .slice a len cap) (h : DataW.Trod enc Tryd.prog w base spare held t v d ps) :
    ∃ l : List Ce, SlC w (.slice a len cap) l := by
  subst ht hv
  obtain ⟨fuel, hf⟩ := h
  obtain ⟨A, l', c', zs, hcs, hr⟩ := sl_of_trod hf
  simp [Value.cells] at hcs
  obtain ⟨rfl, rfl, rfl⟩ := hcs
  exact ⟨zs, hr⟩
set_option maxRecDepth 8000 in
theorem open_line {r : Reach} {b0 : Nat} {v : Value} {d : DataW H} {ps : List MemPlace} (hv : Value.okWide Tryd.prog w r b0 36 v) (h : DataW.Trod enc Tryd.prog w base spare held 36 v d ps) :
    ∃ (x : Value) (s : Bool) (l : List Ce), v = .agg #[x, .bool s] ∧ SlC w x l := by
  obtain ⟨cs, rfl, hsz⟩ := okWide_struct undL hv
  obtain ⟨fuel, hf⟩ := h
  obtain ⟨f0, f1, hl, h0, h1⟩ := parts2 _ _ fieldsL
  obtain ⟨xs, n, _, _, hlen, hxl, hfd⟩ := DataW.trod_struct undL (show DataW.trod enc Tryd.prog w base spare held fuel 36 cs.toList = some _ from hf)
  have e0 := hfd 0 f0 (field_at hl 0)
  have e1 := hfd 1 f1 (field_at hl 1)
  simp only [Prod.mk.injEq] at h0 h1
  rw [h0.2.1, h0.2.2, cells1s] at e0
  rw [h1.2.1, h1.2.2, cells1b] at e1
  rw [cells2L] at hlen
  have hs2 : xs.length = 2 := by rw [hxl, ← Array.length_toList, hl]; rfl
  obtain ⟨c0, c1, hc⟩ : ∃ c0 c1, cs.toList = [c0, c1] := by
    match hc : cs.toList, hlen with
    | [c0, c1], _ => exact ⟨c0, c1, rfl⟩
  match xs, hs2 with
  | [x0, x1], _ =>
  rw [hc] at e0 e1
  obtain ⟨A, len, cap, l, k0, hr⟩ := sl_of_trod (show DataW.trod enc Tryd.prog w base spare held n 34 [c0] = some x0 from e0)
  obtain ⟨s, k1, -⟩ := DataW.trod_bool Tryd.underlying4 (show DataW.trod enc Tryd.prog w base spare held n 4 [c1] = some x1 from e1)
  simp only [List.cons.injEq, and_true] at k0 k1
  subst k0 k1
  refine ⟨.slice A len cap, s, l, ?_, hr⟩
  have : cs = #[.slice A len cap, .bool s] := Array.ext' hc
  rw [this]
end
end Go.Proofs.YtlpjhaghphmbeaaDoor
