/-
  Words and runs as values: how they are compared, made, loaded.
-/
import Derived.Test.YtjcpdldaimebbaaDoorKMath
import Derived.Test.YtjcpdldaimebbaaDoorKRec
import Derived.Test.YtjcpdldaimebbaaDoorLRn
namespace Go.Proofs.YtjcpdldaimebbaaDoor
open Go.RowKit

abbrev Wd.cs (x : Wd) : Array Value := #[.int .u64 x.a, .int .u64 x.b, .int .u64 x.c]
abbrev Wd.v (x : Wd) : Value := .agg x.cs
abbrev Rn.cs (x : Rn) : Array Value := #[.int .i64 x.n, .int .u64 x.w.a, .int .u64 x.w.b, .int .u64 x.w.c]
abbrev Rn.v (x : Rn) : Value := .agg x.cs
def Rn.ls (x : Rn) : List Value := [.int .i64 x.n, .int .u64 x.w.a, .int .u64 x.w.b, .int .u64 x.w.c]

theorem cells1x : Tryd.prog.cellsOf 89 = 1 := by kernel_rfl
theorem infoM3 : (Tryd.prog.info? 52).map (·.size) = some 3 := by kernel_rfl

theorem parts2 {α β : Type} (g : α → β) (l : List α) {b0 b1 : β} (h : l.map g = [b0, b1]) : ∃ a0 a1, l = [a0, a1] ∧ g a0 = b0 ∧ g a1 = b1 := by
  match l, h with
  | [a0, a1], h => simp at h; exact ⟨a0, a1, rfl, h⟩
section
variable {ρ : Operand → Value} {o : Oper} {x y : Operand}
/-- A number out of a block. -/
theorem rn_ld1 {ty : TypeId} {k : IntKind} {g off : Nat} {t : TypeId} {cs : Array Value} {v : Value} {w : World} (h : o.op = .load ty x) (hx : ρ x = .pointer (some ⟨g, off, none⟩)) (hu : Tryd.prog.underlying ty = some (.int k)) (hB : Blk w g t cs) (hv : cs[off]? = some v) :
    (execOp ρ o).run Tryd.prog w = .ok (.value v) w := by
  unfold execOp
  simp only [h, hx, run_load1 hu ((hB.cell off).trans hv), Sem.run_bind, Sem.run_pure, Result.andThen_ok]
/-- A row out of a block. -/
theorem rn_ldp {ty : TypeId} {d : TypeDesc} {g off : Nat} {t : TypeId} {cs : Array Value} (vs : List Value) {w : World} (h : o.op = .load ty x) (hx : ρ x = .pointer (some ⟨g, off, none⟩)) (hu : Tryd.prog.underlying ty = some d) (hd : d.isRow = true) (hs : (Tryd.prog.info? ty).map (·.size) = some vs.length) (hB : Blk w g t cs) (hv : (cs.toList.drop off).take vs.length = vs) :
    (execOp ρ o).run Tryd.prog w = .ok (.value (.agg vs.toArray)) w := by
  have hR : w.rangeAt g off vs := fun q v hq => by
    rw [hB.cell (off + q)]
    rw [← hv, List.getElem?_take] at hq
    split at hq
    · rw [List.getElem?_drop] at hq
      simpa using hq
    · cases hq
  unfold execOp
  simp only [h, hx, run_loadAt_mid w g off ty vs _ hR hu hd hs, Sem.run_bind, Sem.run_pure, Result.andThen_ok]
/-- The count and the words of a run in a block. -/
theorem rn_loadRn {g : Nat} {t : TypeId} {c : Rn} {w : World} (h : o.op = .load 3 x) (hx : ρ x = .pointer (some ⟨g, 0, none⟩)) (hB : Blk w g t c.cs) : (execOp ρ o).run Tryd.prog w = .ok (.value (.int .i64 c.n)) w :=
  rn_ld1 h hx Tryd.underlying3 hB rfl
theorem rn_faC0 {g off : Nat} {p : Value} (h : o.op = .fieldAddr 60 x 0) (hx : ρ x = .pointer (some ⟨g, off, none⟩)) (hp : .pointer (some ⟨g, off + 0, none⟩) = p) (w : World) : (execOp ρ o).run Tryd.prog w = .ok (.value p) w := by
  subst hp
  unfold execOp
  simp only [h, hx]
  kernel_rfl
theorem rn_faC1 {g off : Nat} {p : Value} (h : o.op = .fieldAddr 60 x 1) (hx : ρ x = .pointer (some ⟨g, off, none⟩)) (hp : .pointer (some ⟨g, off + 1, none⟩) = p) (w : World) : (execOp ρ o).run Tryd.prog w = .ok (.value p) w := by
  subst hp
  unfold execOp
  simp only [h, hx]
  kernel_rfl
theorem rn_faC2 {g off : Nat} {p : Value} (h : o.op = .fieldAddr 60 x 2) (hx : ρ x = .pointer (some ⟨g, off, none⟩)) (hp : .pointer (some ⟨g, off + 4, none⟩) = p) (w : World) : (execOp ρ o).run Tryd.prog w = .ok (.value p) w := by
  subst hp
  unfold execOp
  simp only [h, hx]
  kernel_rfl
theorem rn_faC3 {g off : Nat} {p : Value} (h : o.op = .fieldAddr 60 x 3) (hx : ρ x = .pointer (some ⟨g, off, none⟩)) (hp : .pointer (some ⟨g, off + 5, none⟩) = p) (w : World) : (execOp ρ o).run Tryd.prog w = .ok (.value p) w := by
  subst hp
  unfold execOp
  simp only [h, hx]
  kernel_rfl
theorem rn_iaM0 {g off : Nat} {p : Value} (h : o.op = .indexAddr 52 x (.const (.int .i64 0))) (hx : ρ x = .pointer (some ⟨g, off, none⟩)) (hc : ∀ v, ρ (.const v) = v) (hp : .pointer (some ⟨g, off + 0, none⟩) = p) (w : World) : (execOp ρ o).run Tryd.prog w = .ok (.value p) w := by
  subst hp
  unfold execOp
  simp only [h, hx, hc]
  kernel_rfl
theorem rn_iaM1 {g off : Nat} {p : Value} (h : o.op = .indexAddr 52 x (.const (.int .i64 1))) (hx : ρ x = .pointer (some ⟨g, off, none⟩)) (hc : ∀ v, ρ (.const v) = v) (hp : .pointer (some ⟨g, off + 1, none⟩) = p) (w : World) : (execOp ρ o).run Tryd.prog w = .ok (.value p) w := by
  subst hp
  unfold execOp
  simp only [h, hx, hc]
  kernel_rfl
theorem rn_iaM2 {g off : Nat} {p : Value} (h : o.op = .indexAddr 52 x (.const (.int .i64 2))) (hx : ρ x = .pointer (some ⟨g, off, none⟩)) (hc : ∀ v, ρ (.const v) = v) (hp : .pointer (some ⟨g, off + 2, none⟩) = p) (w : World) : (execOp ρ o).run Tryd.prog w = .ok (.value p) w := by
  subst hp
  unfold execOp
  simp only [h, hx, hc]
  kernel_rfl
theorem rn_bC0 (h : o.op = .build 60 #[]) (w : World) : (execOp ρ o).run Tryd.prog w = .ok (.value (Ce.v zeroCe)) w := by
  unfold execOp
  simp only [h, List.map_toArray, List.map_nil]
  kernel_rfl
theorem rn_allocM (h : o.op = .alloc 52) (w : World) : (execOp ρ o).run Tryd.prog w = .ok (.value (.pointer (some ⟨w.heap.size, 0, none⟩))) (w.alloc (.cells #[.int .i32 0, .int .i32 0, .int .i32 0] 52)) := by
  unfold execOp
  simp only [h]
  kernel_rfl
theorem rn_allocP (h : o.op = .alloc 58) (w : World) : (execOp ρ o).run Tryd.prog w = .ok (.value (.pointer (some ⟨w.heap.size, 0, none⟩))) (w.alloc (.cells zeroP.cs 58)) := by
  unfold execOp
  simp only [h]
  kernel_rfl
theorem rn_boxM {a b c : Int} (h : o.op = .box 52 x) (hx : ρ x = .agg #[.int .i32 a, .int .i32 b, .int .i32 c]) (w : World) : (execOp ρ o).run Tryd.prog w = .ok (.value (.pointer (some ⟨w.heap.size, 0, none⟩))) (w.alloc (.cells #[.int .i32 a, .int .i32 b, .int .i32 c] 52)) := by
  unfold execOp
  simp only [h, hx]
  kernel_rfl
theorem rn_addU {i j r : Int} (h : o.op = .binOp .add 89 x y 89) (hx : ρ x = .int .u64 i) (hy : ρ y = .int .u64 j) (hr : IntKind.u64.wrap (i + j) = r) (w : World) : (execOp ρ o).run Tryd.prog w = .ok (.value (.int .u64 r)) w := by
  subst hr
  obtain ⟨dst, op, ty, pos, after, guard⟩ := o
  simp only at h
  subst h
  go_simp
theorem rn_mulU {i j r : Int} (h : o.op = .binOp .mul 89 x y 89) (hx : ρ x = .int .u64 i) (hy : ρ y = .int .u64 j) (hr : IntKind.u64.wrap (i * j) = r) (w : World) : (execOp ρ o).run Tryd.prog w = .ok (.value (.int .u64 r)) w := by
  subst hr
  obtain ⟨dst, op, ty, pos, after, guard⟩ := o
  simp only at h
  subst h
  go_simp
theorem rn_orU {i j r : Int} (h : o.op = .binOp .or 89 x y 89) (hx : ρ x = .int .u64 i) (hy : ρ y = .int .u64 j) (hr : bits .or .u64 i j = r) (w : World) : (execOp ρ o).run Tryd.prog w = .ok (.value (.int .u64 r)) w := by
  subst hr
  obtain ⟨dst, op, ty, pos, after, guard⟩ := o
  simp only at h
  subst h
  go_simp
theorem rn_andU {i j r : Int} (h : o.op = .binOp .and 89 x y 89) (hx : ρ x = .int .u64 i) (hy : ρ y = .int .u64 j) (hr : bits .and .u64 i j = r) (w : World) : (execOp ρ o).run Tryd.prog w = .ok (.value (.int .u64 r)) w := by
  subst hr
  obtain ⟨dst, op, ty, pos, after, guard⟩ := o
  simp only at h
  subst h
  go_simp
theorem rn_subI {i j r : Int} (h : o.op = .binOp .sub 3 x y 3) (hx : ρ x = .int .i64 i) (hy : ρ y = .int .i64 j) (hr : IntKind.i64.wrap (i - j) = r) (w : World) : (execOp ρ o).run Tryd.prog w = .ok (.value (.int .i64 r)) w := by
  subst hr
  obtain ⟨dst, op, ty, pos, after, guard⟩ := o
  simp only at h
  subst h
  go_simp
theorem rn_mulI {i j r : Int} (h : o.op = .binOp .mul 3 x y 3) (hx : ρ x = .int .i64 i) (hy : ρ y = .int .i64 j) (hr : IntKind.i64.wrap (i * j) = r) (w : World) : (execOp ρ o).run Tryd.prog w = .ok (.value (.int .i64 r)) w := by
  subst hr
  obtain ⟨dst, op, ty, pos, after, guard⟩ := o
  simp only at h
  subst h
  go_simp
end
end Go.Proofs.YtjcpdldaimebbaaDoor
