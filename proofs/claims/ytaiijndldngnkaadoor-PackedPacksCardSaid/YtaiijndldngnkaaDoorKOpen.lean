/-
  Arguments opened: words, slices of cells (each with what its type allows), slices of runs.
-/
import Derived.Test.YtaiijndldngnkaaDoorCOpen
import Derived.Test.YtaiijndldngnkaaDoorCList
import Derived.Test.YtaiijndldngnkaaDoorKC
import Derived.Deep.Slices
namespace Go.Proofs.YtaiijndldngnkaaDoor
open Go.RowKit Go.ChangeShapes Go.WideShapes Go.Deep

theorem wf_u64_iff (n : Int) : (Lit.int .u64 n).wf = true ↔ 0 ≤ n ∧ n ≤ 18446744073709551615 := by
  simp [Lit.wf, IntKind.min, IntKind.max, IntKind.bits, IntKind.signed]
theorem cells4r : Tryd.prog.cellsOf 67 = 4 := by kernel_rfl
section
variable {H : Type} {enc : TypeId × Value → H} {w : World} {base : Nat} {spare : Nat → Bool} {held : Bool}
def Wd.d (x : Wd) : DataW H := .agg [.lit (.int .u64 x.a), .lit (.int .u64 x.b), .lit (.int .u64 x.c)]
theorem okWide_arr {P : Program} {r : Reach} {b0 : Nat} {t e : TypeId} {n : Nat} {v : Value} (ht : P.underlying t = some (.array n e)) (h : Value.okWide P w r b0 t v) : ∃ cs, v = .agg cs ∧ cs.size = P.cellsOf t := by
  simp only [Value.okWide, ht] at h
  obtain ⟨cs, h1, h2, _⟩ := h
  exact ⟨cs, h1, h2⟩
theorem words_of_trod {m : Nat} {cs : List Value} {y : DataW H × List MemPlace} (hl : cs.length = 3) (h : DataW.trod enc Tryd.prog w base spare held m 34 cs = some y) : ∃ x : Wd, x.Ok ∧ cs = [.int .u64 x.a, .int .u64 x.b, .int .u64 x.c] ∧ y = (x.d, []) := by
  match cs, hl with
  | [c0, c1, c2], _ =>
    obtain ⟨y0, y1, y2, k, rfl, t0, t1, t2⟩ := trod_array3 Tryd.underlying34 cells1x h
    obtain ⟨m0, k0, rfl, v0⟩ := DataW.trod_int Tryd.underlying33 t0
    obtain ⟨m1, k1, rfl, v1⟩ := DataW.trod_int Tryd.underlying33 t1
    obtain ⟨m2, k2, rfl, v2⟩ := DataW.trod_int Tryd.underlying33 t2
    simp only [List.cons.injEq, and_true] at k0 k1 k2
    subst k0 k1 k2
    rw [wf_u64_iff] at v0 v1 v2
    exact ⟨⟨m0, m1, m2⟩, ⟨v0.1, by simp only; omega, v1.1, by simp only; omega, v2.1, by simp only; omega⟩, rfl, rfl⟩
theorem open_words {r : Reach} {b0 : Nat} {v : Value} {d : DataW H} {ps : List MemPlace} (hv : Value.okWide Tryd.prog w r b0 34 v) (h : DataW.Trod enc Tryd.prog w base spare held 34 v d ps) :
    ∃ x : Wd, v = x.v ∧ d = x.d ∧ ps = [] ∧ x.Ok := by
  obtain ⟨cs, rfl, hsz⟩ := okWide_arr Tryd.underlying34 hv
  obtain ⟨fuel, hf⟩ := h
  rw [cells3w] at hsz
  obtain ⟨x, hx, e1, e2⟩ := words_of_trod (by simpa [Value.cells] using hsz) hf
  simp only [Prod.mk.injEq] at e2
  obtain ⟨rfl, rfl⟩ := e2
  refine ⟨x, ?_, rfl, rfl, hx⟩
  have e3 : cs.toList = [.int .u64 x.a, .int .u64 x.b, .int .u64 x.c] := e1
  have e4 : cs = x.cs := by
    apply Array.ext'
    rw [e3]
  rw [e4]
theorem shut_words (x : Wd) (hx : x.Ok) : DataW.Trod enc Tryd.prog w base spare held 34 x.v x.d [] := ⟨2, by
  have h1 := hx.a1
  have h2 := hx.b1
  have h3 := hx.c1
  have t0 := trod_int_mk (enc := enc) (w := w) (base := base) (spare := spare) (held := held) 0 Tryd.underlying33 ((wf_u64_iff x.a).2 ⟨hx.a0, by omega⟩)
  have t1 := trod_int_mk (enc := enc) (w := w) (base := base) (spare := spare) (held := held) 0 Tryd.underlying33 ((wf_u64_iff x.b).2 ⟨hx.b0, by omega⟩)
  have t2 := trod_int_mk (enc := enc) (w := w) (base := base) (spare := spare) (held := held) 0 Tryd.underlying33 ((wf_u64_iff x.c).2 ⟨hx.c0, by omega⟩)
  show DataW.trod enc Tryd.prog w base spare held 2 34 [.int .u64 x.a, .int .u64 x.b, .int .u64 x.c] = _
  unfold DataW.trod
  rw [Tryd.underlying34]
  have r3 : List.range 3 = [0, 1, 2] := rfl
  simp [cells3w, cells1x, r3, t0, t1, t2, Wd.d]⟩
set_option maxRecDepth 8000 in
theorem run_of_trod {m : Nat} {cs : List Value} {y : DataW H × List MemPlace} (h : DataW.trod enc Tryd.prog w base spare held m 67 cs = some y) : ∃ c : Rn, c.Ok ∧ cs = c.ls := by
  obtain ⟨f0, f1, hl, h0, h1⟩ := parts2 _ _ fieldsR
  obtain ⟨xs, n, _, rfl, hlen, hxl, hf⟩ := DataW.trod_struct undR h
  have e0 := hf 0 f0 (field_at hl 0)
  have e1 := hf 1 f1 (field_at hl 1)
  simp only [Prod.mk.injEq] at h0 h1
  rw [h0.2.1, h0.2.2, cells1w] at e0
  rw [h1.2.1, h1.2.2, cells3w] at e1
  rw [cells4r] at hlen
  have hs2 : xs.length = 2 := by rw [hxl, ← Array.length_toList, hl]; rfl
  match cs, hlen with
  | [c0, c1, c2, c3], _ =>
  match xs, hs2 with
  | [x0, x1], _ =>
  obtain ⟨d, g0, rfl, w0⟩ := DataW.trod_int Tryd.underlying3 (show DataW.trod enc Tryd.prog w base spare held n 3 [c0] = some x0 from e0)
  obtain ⟨x, hx, g1, rfl⟩ := words_of_trod rfl (show DataW.trod enc Tryd.prog w base spare held n 34 [c1, c2, c3] = some x1 from e1)
  simp only [List.cons.injEq, and_true] at g0 g1
  obtain ⟨rfl, rfl, rfl⟩ := g1
  subst g0
  rw [wf_i64_iff] at w0
  exact ⟨⟨d, x⟩, ⟨w0.1, w0.2, hx⟩, rfl⟩

/-- What a walk is told of a slice of cells, or of runs, that came in. -/
def RowK (w : World) (A : Option Addr) (len : Nat) (l : List Ce) : Prop := ∃ b, RdC w b A len l ∧ ∀ c ∈ l, c.Ok
def RowR (w : World) (A : Option Addr) (len : Nat) (l : List Rn) : Prop := ∃ b, RdR w b A len l ∧ ∀ c ∈ l, c.Ok
theorem zeroCe_ok : zeroCe.Ok := by refine ⟨?_, ?_, ?_, ?_, ?_, ?_, ?_, ?_, ?_, ?_, zeroP_ok⟩ <;> decide
theorem zeroR_ok : zeroR.Ok := by refine ⟨?_, ?_, ⟨?_, ?_, ?_, ?_, ?_, ?_⟩⟩ <;> decide
theorem open_row {α : Type} (R : Rec α) (ok : α → Prop) (c0 : α) (hc0 : ok c0) {sl : TypeId} (hsl : R.sl = sl) (hsz : Tryd.prog.cellsOf R.ty = R.sz) (hnum : ∀ c, ∃ k n, (R.ls c)[0]? = some (.int k n))
    (opn : ∀ {m : Nat} {cs : List Value} {y : DataW H × List MemPlace}, DataW.trod enc Tryd.prog w base spare held m R.ty cs = some y → ∃ c, ok c ∧ cs = R.ls c)
    {fuel : Nat} {cs : List Value} {x : DataW H × List MemPlace} (h : DataW.trod enc Tryd.prog w base spare held fuel sl cs = some x) :
    ∃ (A : Option Addr) (len cap : Nat) (l : List α), cs = [.slice A len cap] ∧ ∃ b, RdG R w b A len l ∧ ∀ c ∈ l, ok c := by
  rcases open_slice (hsl ▸ R.und) h with ⟨rfl, _⟩ | ⟨a, len, cap, m, n, D, Pl, rfl, hb, hl, hm, hmm, hx, hi⟩
  · exact ⟨none, 0, 0, [], rfl, 0, RdG.nil _ _ _, fun c hc => by cases hc⟩
  refine ⟨some a, len, cap, ?_⟩
  have hlm : len ≤ m := by rw [hmm]; split <;> omega
  have key : ∀ i, ∃ c : α, ok c ∧ (i < len → ∀ j, j < R.sz → w.cell? (a.add (i * R.sz + j)) = (R.ls c)[j]?) := by
    intro i
    by_cases hil : i < len
    · obtain ⟨cs', hcs, ht⟩ := hi i (by omega)
      obtain ⟨c, hc, rfl⟩ := opn ht
      rw [hsz] at hcs
      obtain ⟨_, _, hat⟩ := World.cells?_some hcs
      exact ⟨c, hc, fun _ j hj => by rw [← Go.Deep.add_add]; exact hat j hj⟩
    · exact ⟨c0, hc0, fun h => absurd h hil⟩
  obtain ⟨f, hf⟩ := Classical.axiomOfChoice key
  refine ⟨(List.range len).map f, rfl, a.block, ⟨by simp, fun h0 => ?_⟩, fun c hc => ?_⟩
  · obtain ⟨b, off, spot⟩ := a
    have h1 := (hf 0).2 h0 0 R.pos
    obtain ⟨k, z, hz⟩ := hnum (f 0)
    have h1' : w.cell? ((⟨b, off, spot⟩ : Addr).add 0) = some (.int k z) := by rw [← hz, ← h1, Nat.zero_mul]
    have hs : spot = none := by simpa [Addr.add] using World.cell?_spot h1'
    subst hs
    refine ⟨off, rfl, ?_, fun j hj => ?_⟩
    · rw [addr_add] at h1'
      exact World.block_lt_of_cell? w _ h1'
    · have hd : j / R.sz < len := Nat.div_lt_of_lt_mul (by rw [Nat.mul_comm]; exact hj)
      have hmd : j % R.sz < R.sz := Nat.mod_lt _ R.pos
      have e : j / R.sz * R.sz + j % R.sz = j := by rw [Nat.mul_comm]; exact Nat.div_add_mod j R.sz
      have h2 := (hf (j / R.sz)).2 hd (j % R.sz) hmd
      rw [addr_add, e] at h2
      rw [h2]
      have h3 := flatG_at R ((List.range len).map f) (j / R.sz) (j % R.sz) (by simp only [List.length_map, List.length_range]; exact hd) hmd
      rw [e] at h3
      rw [h3]
      simp
  · obtain ⟨i, _, rfl⟩ := List.mem_map.1 hc
    exact (hf i).1
theorem open_runs {fuel : Nat} {cs : List Value} {x : DataW H × List MemPlace} (h : DataW.trod enc Tryd.prog w base spare held fuel 43 cs = some x) :
    ∃ (A : Option Addr) (len cap : Nat) (l : List Rn), cs = [.slice A len cap] ∧ RowR w A len l :=
  open_row rR Rn.Ok zeroR zeroR_ok rfl cells4r (fun c => ⟨.i64, c.n, rfl⟩) (fun h => run_of_trod h) h
theorem open_cellsK {fuel : Nat} {cs : List Value} {x : DataW H × List MemPlace} (h : DataW.trod enc Tryd.prog w base spare held fuel 42 cs = some x) :
    ∃ (A : Option Addr) (len cap : Nat) (l : List Ce), cs = [.slice A len cap] ∧ RowK w A len l :=
  open_row rC Ce.Ok zeroCe zeroCe_ok rfl cells16 (fun c => ⟨.i32, c.r, rfl⟩) (fun h => let ⟨c, h1, h2, _⟩ := cell_of_trod h; ⟨c, h1, h2⟩) h
end
end Go.Proofs.YtaiijndldngnkaaDoor
