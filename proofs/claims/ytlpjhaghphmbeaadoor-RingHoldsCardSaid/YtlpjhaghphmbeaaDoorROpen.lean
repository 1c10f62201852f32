/-
  Arguments opened: lists of the law's calls, of bytes.
-/
import Derived.Test.YtlpjhaghphmbeaaDoorA4
import Derived.Test.YtlpjhaghphmbeaaDoorRRead
namespace Go.Proofs.YtlpjhaghphmbeaaDoor
open Go.RowKit Go.ChangeShapes Go.WideShapes Go.Deep

theorem fieldsB : (Tryd.prog.fieldsOf 38).toList.map (fun f => (f.name, f.type, f.offset)) = [("What", 3, 0), ("N", 3, 1), ("To", 3, 2), ("Line", 36, 3)] := by kernel_rfl
theorem cells5B : Tryd.prog.cellsOf 38 = 5 := by kernel_rfl
theorem cells1I : Tryd.prog.cellsOf 3 = 1 := by kernel_rfl
/-- What a walk is told of a list of calls that came in. -/
def ActsC (w : World) (v : Value) (xs : List BV) : Prop := ∃ A c b, v = .slice A xs.length c ∧ RdG rB w b A xs.length xs ∧ ∀ (i : Nat) (x : BV), xs[i]? = some x → ∃ l, SlC w (.slice x.A x.n x.c) l
def BytesC (w : World) (A : Option Addr) (n : Nat) (l : List Int) : Prop := l.length = n ∧ (0 < n → ∃ b o, A = some ⟨b, o, none⟩ ∧ b < w.heap.size ∧ ∀ (i : Nat) (x : Int), l[i]? = some x → w.cell? ⟨b, o + i, none⟩ = some (.int .u8 x)) ∧ ∀ x ∈ l, 0 ≤ x ∧ x ≤ 255
theorem bytes_of {w : World} {a : Option Addr} {len cap : Nat} {zs : List Int} (h : (a = none ∧ len = 0 ∧ cap = 0 ∧ zs = []) ∨ ∃ x, a = some x ∧ len ≤ cap ∧ cap ≤ maxLen ∧ zs.length = cap ∧ (∀ i, i < zs.length → w.cell? (x.add i) = some (.int .u8 (zs.getD i 0))) ∧ ∀ n ∈ zs, (Lit.int .u8 n).wf = true) : BytesC w a len (zs.take len) := by
  rcases h with ⟨rfl, rfl, rfl, rfl⟩ | ⟨x, rfl, h1, h2, h3, h4, h5⟩
  · exact ⟨rfl, fun h => absurd h (by omega), fun x h => by simp at h⟩
  · refine ⟨by rw [List.length_take]; omega, fun h0 => ?_, fun y hy => ?_⟩
    · obtain ⟨b, o, spot⟩ := x
      have e0 := h4 0 (by omega)
      have hs : spot = none := by simpa [Addr.add] using World.cell?_spot e0
      subst hs
      refine ⟨b, o, rfl, ?_, fun i y hy => ?_⟩
      · rw [addr_add] at e0
        exact World.block_lt_of_cell? w _ e0
      · rw [List.getElem?_take] at hy
        split at hy
        · have hi := (List.getElem?_eq_some_iff.1 hy).1
          have e := h4 i hi
          rw [addr_add] at e
          rw [e, List.getD_eq_getElem?_getD, hy]
          rfl
        · cases hy
    · have := h5 y (List.mem_of_mem_take hy)
      simpa [Lit.wf, IntKind.min, IntKind.max, IntKind.bits, IntKind.signed] using this
section
variable {H : Type} {enc : TypeId × Value → H} {w : World} {base : Nat} {spare : Nat → Bool} {held : Bool}
set_option maxRecDepth 8000 in
theorem line_of_trod {fuel : Nat} {cs : List Value} {x : DataW H × List MemPlace} (h : DataW.trod enc Tryd.prog w base spare held fuel 36 cs = some x) :
    ∃ (A : Option Addr) (len cap : Nat) (s : Bool) (l : List Ce), cs = [.slice A len cap, .bool s] ∧ SlC w (.slice A len cap) l := by
  obtain ⟨f0, f1, hl, h0, h1⟩ := parts2 _ _ fieldsL
  obtain ⟨xs, n, _, _, hlen, hxl, hfd⟩ := DataW.trod_struct undL h
  have e0 := hfd 0 f0 (field_at hl 0)
  have e1 := hfd 1 f1 (field_at hl 1)
  simp only [Prod.mk.injEq] at h0 h1
  rw [h0.2.1, h0.2.2, cells1s] at e0
  rw [h1.2.1, h1.2.2, cells1b] at e1
  rw [cells2L] at hlen
  have hs2 : xs.length = 2 := by rw [hxl, ← Array.length_toList, hl]; rfl
  match cs, hlen with
  | [c0, c1], _ =>
  match xs, hs2 with
  | [x0, x1], _ =>
  obtain ⟨A, len, cap, l, k0, hr⟩ := sl_of_trod (show DataW.trod enc Tryd.prog w base spare held n 34 [c0] = some x0 from e0)
  obtain ⟨s, k1, -⟩ := DataW.trod_bool Tryd.underlying4 (show DataW.trod enc Tryd.prog w base spare held n 4 [c1] = some x1 from e1)
  simp only [List.cons.injEq, and_true] at k0 k1
  subst k0 k1
  exact ⟨A, len, cap, s, l, rfl, hr⟩
set_option maxRecDepth 8000 in
theorem act_of_trod {m : Nat} {cs : List Value} {y : DataW H × List MemPlace} (h : DataW.trod enc Tryd.prog w base spare held m 38 cs = some y) : ∃ c : BV, (∃ l, SlC w (.slice c.A c.n c.c) l) ∧ cs = rB.ls c := by
  obtain ⟨f0, f1, f2, f3, hl, h0, h1, h2, h3⟩ := parts4 _ _ fieldsB
  obtain ⟨xs, n, _, rfl, hlen, hxl, hf⟩ := DataW.trod_struct undA h
  have e0 := hf 0 f0 (field_at hl 0)
  have e1 := hf 1 f1 (field_at hl 1)
  have e2 := hf 2 f2 (field_at hl 2)
  have e3 := hf 3 f3 (field_at hl 3)
  simp only [Prod.mk.injEq] at h0 h1 h2 h3
  rw [h0.2.1, h0.2.2, cells1I] at e0
  rw [h1.2.1, h1.2.2, cells1I] at e1
  rw [h2.2.1, h2.2.2, cells1I] at e2
  rw [h3.2.1, h3.2.2, cells2L] at e3
  rw [cells5B] at hlen
  have hs3 : xs.length = 4 := by rw [hxl, ← Array.length_toList, hl]; rfl
  match cs, hlen with
  | [c0, c1, c2, c3, c4], _ =>
  match xs, hs3 with
  | [x0, x1, x2, x3], _ =>
  obtain ⟨d, g0, rfl, w0⟩ := DataW.trod_int Tryd.underlying3 (show DataW.trod enc Tryd.prog w base spare held n 3 [c0] = some x0 from e0)
  obtain ⟨d1, g1, rfl, w1⟩ := DataW.trod_int Tryd.underlying3 (show DataW.trod enc Tryd.prog w base spare held n 3 [c1] = some x1 from e1)
  obtain ⟨d2, g2, rfl, w2⟩ := DataW.trod_int Tryd.underlying3 (show DataW.trod enc Tryd.prog w base spare held n 3 [c2] = some x2 from e2)
  obtain ⟨A, len, cap, s, l, g3, hr⟩ := line_of_trod (show DataW.trod enc Tryd.prog w base spare held n 36 [c3, c4] = some x3 from e3)
  simp only [List.cons.injEq, and_true] at g0 g1 g2 g3
  obtain ⟨rfl, rfl⟩ := g3
  subst g0 g1 g2
  exact ⟨⟨d, d1, d2, A, len, cap, s⟩, ⟨l, hr⟩, rfl⟩
theorem open_acts {t : TypeId} {v : Value} {d : DataW H} {ps : List MemPlace} {a : Option Addr} {len cap : Nat} (ht : t = 22) (hv : v = .slice a len cap) (h : DataW.Trod enc Tryd.prog w base spare held t v d ps) :
    ∃ l : List BV, ActsC w (.slice a len cap) l := by
  subst ht hv
  obtain ⟨fuel, hf⟩ := h
  obtain ⟨A, l', c', zs, hcs, b, hr, hok⟩ := open_row rB (fun c => ∃ l, SlC w (.slice c.A c.n c.c) l) ⟨0, 0, 0, none, 0, 0, false⟩ ⟨[], SlC.nil w⟩ rfl cells5B (fun c => ⟨.i64, c.wh, rfl⟩) (fun h => act_of_trod h) hf
  simp [Value.cells] at hcs
  obtain ⟨rfl, rfl, rfl⟩ := hcs
  have hl := hr.1
  subst hl
  exact ⟨zs, a, cap, b, rfl, hr, fun i x hx => hok x (List.mem_of_getElem? hx)⟩
end
end Go.Proofs.YtlpjhaghphmbeaaDoor
