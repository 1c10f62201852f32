/-
  Single operations of layer 8: the struct types, rows of pointers to pages, rows of pages of the specification, boxes of one cell.
  Rings: what their calls do, over pages as lists of lines.
  Ranges over functions: what is known of code outside of rounds is known in rounds; the loop's record and the block for what its rounds put off, as data; the statement's law, and the way out.
  Rings in memory: pages, rows of pointers to them, rings as data; how a ring is opened, and a page taken out of it.
-/
import Derived.Test.YtlpjhaghphmbeaaDoorSSheetB
import Derived.Test.YtlpjhaghphmbeaaDoorA11
import Derived.RangeFuncRecord
import Derived.RangeFuncCalls
import Derived.OrdersIn
import Derived.TacticsIn
import Derived.OwnWalkIn
import Derived.Test.YtlpjhaghphmbeaaDoorA10
namespace Go.Proofs.YtlpjhaghphmbeaaDoor
open Go.RowKit

section
variable {ρ : Operand → Value} {o : Oper} {x y z u : Operand}
theorem rn_boxH {A0 : Option Addr} {n0 c0 : Nat} {i1 : Int} {i2 : Int} {i3 : Int} {i4 : Int} (h : o.op = .box 60 x) (hx : ρ x = .agg #[.slice A0 n0 c0, .int .i64 i1, .int .i64 i2, .int .i64 i3, .int .i64 i4]) (w : World) : (execOp ρ o).run Tryd.prog w = .ok (.value (.pointer (some ⟨w.heap.size, 0, none⟩))) (w.alloc (.cells #[.slice A0 n0 c0, .int .i64 i1, .int .i64 i2, .int .i64 i3, .int .i64 i4] 60)) := by
  unfold execOp
  simp only [h, hx]
  kernel_rfl
theorem rn_faH0 {g off : Nat} {p : Value} (h : o.op = .fieldAddr 60 x 0) (hx : ρ x = .pointer (some ⟨g, off, none⟩)) (hp : .pointer (some ⟨g, off + 0, none⟩) = p) (w : World) : (execOp ρ o).run Tryd.prog w = .ok (.value p) w := by
  subst hp
  unfold execOp
  simp only [h, hx]
  kernel_rfl
theorem rn_faH1 {g off : Nat} {p : Value} (h : o.op = .fieldAddr 60 x 1) (hx : ρ x = .pointer (some ⟨g, off, none⟩)) (hp : .pointer (some ⟨g, off + 1, none⟩) = p) (w : World) : (execOp ρ o).run Tryd.prog w = .ok (.value p) w := by
  subst hp
  unfold execOp
  simp only [h, hx]
  kernel_rfl
theorem rn_faH2 {g off : Nat} {p : Value} (h : o.op = .fieldAddr 60 x 2) (hx : ρ x = .pointer (some ⟨g, off, none⟩)) (hp : .pointer (some ⟨g, off + 2, none⟩) = p) (w : World) : (execOp ρ o).run Tryd.prog w = .ok (.value p) w := by
  subst hp
  unfold execOp
  simp only [h, hx]
  kernel_rfl
theorem rn_faH3 {g off : Nat} {p : Value} (h : o.op = .fieldAddr 60 x 3) (hx : ρ x = .pointer (some ⟨g, off, none⟩)) (hp : .pointer (some ⟨g, off + 3, none⟩) = p) (w : World) : (execOp ρ o).run Tryd.prog w = .ok (.value p) w := by
  subst hp
  unfold execOp
  simp only [h, hx]
  kernel_rfl
theorem rn_faH4 {g off : Nat} {p : Value} (h : o.op = .fieldAddr 60 x 4) (hx : ρ x = .pointer (some ⟨g, off, none⟩)) (hp : .pointer (some ⟨g, off + 4, none⟩) = p) (w : World) : (execOp ρ o).run Tryd.prog w = .ok (.value p) w := by
  subst hp
  unfold execOp
  simp only [h, hx]
  kernel_rfl
theorem rn_bH (h : o.op = .build 60 #[]) (w : World) : (execOp ρ o).run Tryd.prog w = .ok (.value (.agg #[.slice none 0 0, .int .i64 0, .int .i64 0, .int .i64 0, .int .i64 0])) w := by
  unfold execOp
  simp only [h, List.map_toArray, List.map_nil]
  kernel_rfl
theorem rn_bH12 {i1_0 : Int} {i2_0 : Int} (h : o.op = .build 60 #[(1, x), (2, y)]) (hx : ρ x = .int .i64 i1_0) (hy : ρ y = .int .i64 i2_0) (w : World) : (execOp ρ o).run Tryd.prog w = .ok (.value (.agg #[.slice none 0 0, .int .i64 i1_0, .int .i64 i2_0, .int .i64 0, .int .i64 0])) w := by
  unfold execOp
  simp only [h, List.map_toArray, List.map_cons, List.map_nil, hx, hy]
  kernel_rfl
theorem rn_bH1234 {i1_0 : Int} {i2_0 : Int} {i3_0 : Int} {i4_0 : Int} (h : o.op = .build 60 #[(1, x), (2, y), (3, z), (4, u)]) (hx : ρ x = .int .i64 i1_0) (hy : ρ y = .int .i64 i2_0) (hz : ρ z = .int .i64 i3_0) (hu : ρ u = .int .i64 i4_0) (w : World) : (execOp ρ o).run Tryd.prog w = .ok (.value (.agg #[.slice none 0 0, .int .i64 i1_0, .int .i64 i2_0, .int .i64 i3_0, .int .i64 i4_0])) w := by
  unfold execOp
  simp only [h, List.map_toArray, List.map_cons, List.map_nil, hx, hy, hz, hu]
  kernel_rfl
end
theorem undQ : Tryd.prog.underlying 33 = some (.struct (Tryd.prog.fieldsOf 33)) := by kernel_rfl
theorem infoQ5 : (Tryd.prog.info? 33).map (·.size) = some 5 := by kernel_rfl
section
variable {ρ : Operand → Value} {o : Oper} {x y z u : Operand}
theorem rn_boxQ {i0 : Int} {i1 : Int} {i2 : Int} {A3 : Option Addr} {n3 c3 : Nat} {A4 : Option Addr} {n4 c4 : Nat} (h : o.op = .box 33 x) (hx : ρ x = .agg #[.int .i64 i0, .int .i64 i1, .int .i64 i2, .slice A3 n3 c3, .slice A4 n4 c4]) (w : World) : (execOp ρ o).run Tryd.prog w = .ok (.value (.pointer (some ⟨w.heap.size, 0, none⟩))) (w.alloc (.cells #[.int .i64 i0, .int .i64 i1, .int .i64 i2, .slice A3 n3 c3, .slice A4 n4 c4] 33)) := by
  unfold execOp
  simp only [h, hx]
  kernel_rfl
theorem rn_allocQ (h : o.op = .alloc 33) (w : World) : (execOp ρ o).run Tryd.prog w = .ok (.value (.pointer (some ⟨w.heap.size, 0, none⟩))) (w.alloc (.cells #[.int .i64 0, .int .i64 0, .int .i64 0, .slice none 0 0, .slice none 0 0] 33)) := by
  unfold execOp
  simp only [h]
  kernel_rfl
theorem rn_faQ0 {g off : Nat} {p : Value} (h : o.op = .fieldAddr 33 x 0) (hx : ρ x = .pointer (some ⟨g, off, none⟩)) (hp : .pointer (some ⟨g, off + 0, none⟩) = p) (w : World) : (execOp ρ o).run Tryd.prog w = .ok (.value p) w := by
  subst hp
  unfold execOp
  simp only [h, hx]
  kernel_rfl
theorem rn_faQ1 {g off : Nat} {p : Value} (h : o.op = .fieldAddr 33 x 1) (hx : ρ x = .pointer (some ⟨g, off, none⟩)) (hp : .pointer (some ⟨g, off + 1, none⟩) = p) (w : World) : (execOp ρ o).run Tryd.prog w = .ok (.value p) w := by
  subst hp
  unfold execOp
  simp only [h, hx]
  kernel_rfl
theorem rn_faQ2 {g off : Nat} {p : Value} (h : o.op = .fieldAddr 33 x 2) (hx : ρ x = .pointer (some ⟨g, off, none⟩)) (hp : .pointer (some ⟨g, off + 2, none⟩) = p) (w : World) : (execOp ρ o).run Tryd.prog w = .ok (.value p) w := by
  subst hp
  unfold execOp
  simp only [h, hx]
  kernel_rfl
theorem rn_faQ3 {g off : Nat} {p : Value} (h : o.op = .fieldAddr 33 x 3) (hx : ρ x = .pointer (some ⟨g, off, none⟩)) (hp : .pointer (some ⟨g, off + 3, none⟩) = p) (w : World) : (execOp ρ o).run Tryd.prog w = .ok (.value p) w := by
  subst hp
  unfold execOp
  simp only [h, hx]
  kernel_rfl
theorem rn_faQ4 {g off : Nat} {p : Value} (h : o.op = .fieldAddr 33 x 4) (hx : ρ x = .pointer (some ⟨g, off, none⟩)) (hp : .pointer (some ⟨g, off + 4, none⟩) = p) (w : World) : (execOp ρ o).run Tryd.prog w = .ok (.value p) w := by
  subst hp
  unfold execOp
  simp only [h, hx]
  kernel_rfl
theorem rn_bQ01 {i0_0 : Int} {i1_0 : Int} (h : o.op = .build 33 #[(0, x), (1, y)]) (hx : ρ x = .int .i64 i0_0) (hy : ρ y = .int .i64 i1_0) (w : World) : (execOp ρ o).run Tryd.prog w = .ok (.value (.agg #[.int .i64 i0_0, .int .i64 i1_0, .int .i64 0, .slice none 0 0, .slice none 0 0])) w := by
  unfold execOp
  simp only [h, List.map_toArray, List.map_cons, List.map_nil, hx, hy]
  kernel_rfl
theorem rn_bQ012 {i0_0 : Int} {i1_0 : Int} {i2_0 : Int} (h : o.op = .build 33 #[(0, x), (1, y), (2, z)]) (hx : ρ x = .int .i64 i0_0) (hy : ρ y = .int .i64 i1_0) (hz : ρ z = .int .i64 i2_0) (w : World) : (execOp ρ o).run Tryd.prog w = .ok (.value (.agg #[.int .i64 i0_0, .int .i64 i1_0, .int .i64 i2_0, .slice none 0 0, .slice none 0 0])) w := by
  unfold execOp
  simp only [h, List.map_toArray, List.map_cons, List.map_nil, hx, hy, hz]
  kernel_rfl
end
theorem undA : Tryd.prog.underlying 38 = some (.struct (Tryd.prog.fieldsOf 38)) := by kernel_rfl
theorem infoA5 : (Tryd.prog.info? 38).map (·.size) = some 5 := by kernel_rfl
section
variable {ρ : Operand → Value} {o : Oper} {x y z u : Operand}
theorem rn_boxA {i0 : Int} {i1 : Int} {i2 : Int} {A3 : Option Addr} {n3 c3 : Nat} {s4 : Bool} (h : o.op = .box 38 x) (hx : ρ x = .agg #[.int .i64 i0, .int .i64 i1, .int .i64 i2, .slice A3 n3 c3, .bool s4]) (w : World) : (execOp ρ o).run Tryd.prog w = .ok (.value (.pointer (some ⟨w.heap.size, 0, none⟩))) (w.alloc (.cells #[.int .i64 i0, .int .i64 i1, .int .i64 i2, .slice A3 n3 c3, .bool s4] 38)) := by
  unfold execOp
  simp only [h, hx]
  kernel_rfl
theorem rn_allocA (h : o.op = .alloc 38) (w : World) : (execOp ρ o).run Tryd.prog w = .ok (.value (.pointer (some ⟨w.heap.size, 0, none⟩))) (w.alloc (.cells #[.int .i64 0, .int .i64 0, .int .i64 0, .slice none 0 0, .bool false] 38)) := by
  unfold execOp
  simp only [h]
  kernel_rfl
theorem rn_faA0 {g off : Nat} {p : Value} (h : o.op = .fieldAddr 38 x 0) (hx : ρ x = .pointer (some ⟨g, off, none⟩)) (hp : .pointer (some ⟨g, off + 0, none⟩) = p) (w : World) : (execOp ρ o).run Tryd.prog w = .ok (.value p) w := by
  subst hp
  unfold execOp
  simp only [h, hx]
  kernel_rfl
theorem rn_faA1 {g off : Nat} {p : Value} (h : o.op = .fieldAddr 38 x 1) (hx : ρ x = .pointer (some ⟨g, off, none⟩)) (hp : .pointer (some ⟨g, off + 1, none⟩) = p) (w : World) : (execOp ρ o).run Tryd.prog w = .ok (.value p) w := by
  subst hp
  unfold execOp
  simp only [h, hx]
  kernel_rfl
theorem rn_faA2 {g off : Nat} {p : Value} (h : o.op = .fieldAddr 38 x 2) (hx : ρ x = .pointer (some ⟨g, off, none⟩)) (hp : .pointer (some ⟨g, off + 2, none⟩) = p) (w : World) : (execOp ρ o).run Tryd.prog w = .ok (.value p) w := by
  subst hp
  unfold execOp
  simp only [h, hx]
  kernel_rfl
theorem rn_faA3 {g off : Nat} {p : Value} (h : o.op = .fieldAddr 38 x 3) (hx : ρ x = .pointer (some ⟨g, off, none⟩)) (hp : .pointer (some ⟨g, off + 3, none⟩) = p) (w : World) : (execOp ρ o).run Tryd.prog w = .ok (.value p) w := by
  subst hp
  unfold execOp
  simp only [h, hx]
  kernel_rfl
end
theorem undD : Tryd.prog.underlying 105 = some (.struct (Tryd.prog.fieldsOf 105)) := by kernel_rfl
section
variable {ρ : Operand → Value} {o : Oper} {x y z u : Operand}
theorem rn_faD0 {g off : Nat} {p : Value} (h : o.op = .fieldAddr 105 x 0) (hx : ρ x = .pointer (some ⟨g, off, none⟩)) (hp : .pointer (some ⟨g, off + 0, none⟩) = p) (w : World) : (execOp ρ o).run Tryd.prog w = .ok (.value p) w := by
  subst hp
  unfold execOp
  simp only [h, hx]
  kernel_rfl
theorem rn_faD1 {g off : Nat} {p : Value} (h : o.op = .fieldAddr 105 x 1) (hx : ρ x = .pointer (some ⟨g, off, none⟩)) (hp : .pointer (some ⟨g, off + 1, none⟩) = p) (w : World) : (execOp ρ o).run Tryd.prog w = .ok (.value p) w := by
  subst hp
  unfold execOp
  simp only [h, hx]
  kernel_rfl
theorem rn_bD (h : o.op = .build 105 #[]) (w : World) : (execOp ρ o).run Tryd.prog w = .ok (.value (.agg #[.int .i64 0, .int .i64 0])) w := by
  unfold execOp
  simp only [h, List.map_toArray, List.map_nil]
  kernel_rfl
end
section
variable {ρ : Operand → Value} {o : Oper} {x y : Operand}
theorem rn_lenA {A : Option Addr} {n c : Nat} (h : o.op = .call { callee := .builtin .len, args := #[x], argTypes := #[22] }) (hv : ρ x = .slice A n c) (w : World) : (execOp ρ o).run Tryd.prog w = .ok (.value (.int .i64 n)) w := by
  obtain ⟨dst, op, ty, pos, after, guard⟩ := o
  simp only at h
  subst h
  go_simp
theorem rn_idxA {A : Addr} {n c i : Nat} {p : Value} (h : o.op = .indexAddr 22 x y) (hx : ρ x = .slice (some A) n c) (hy : ρ y = .int .i64 i) (hi : i < n) (hp : .pointer (some (A.add (i * 5))) = p) (w : World) : (execOp ρ o).run Tryd.prog w = .ok (.value p) w := by
  subst hp
  obtain ⟨dst, op, ty, pos, after, guard⟩ := o
  simp only at h
  subst h
  go_simp
end
section
variable {ρ : Operand → Value} {o : Oper} {x y : Operand}
theorem rn_lenGp {A : Option Addr} {n c : Nat} (h : o.op = .call { callee := .builtin .len, args := #[x], argTypes := #[58] }) (hv : ρ x = .slice A n c) (w : World) : (execOp ρ o).run Tryd.prog w = .ok (.value (.int .i64 n)) w := by
  obtain ⟨dst, op, ty, pos, after, guard⟩ := o
  simp only at h
  subst h
  go_simp
theorem rn_idxGp {A : Addr} {n c i : Nat} {p : Value} (h : o.op = .indexAddr 58 x y) (hx : ρ x = .slice (some A) n c) (hy : ρ y = .int .i64 i) (hi : i < n) (hp : .pointer (some (A.add (i * 1))) = p) (w : World) : (execOp ρ o).run Tryd.prog w = .ok (.value p) w := by
  subst hp
  obtain ⟨dst, op, ty, pos, after, guard⟩ := o
  simp only at h
  subst h
  go_simp
theorem run_loadGps (w : World) {b o : Nat} {v : Value} (hc : w.cell? ⟨b, o, none⟩ = some v) : (Instr.loadAt 58 (.pointer (some ⟨b, o, none⟩))).run Tryd.prog w = .ok v w := by
  have hn : (isAgg 58).run Tryd.prog w = .ok false w := by simp [isAgg, run_underlying Tryd.underlying58]
  simp only [Instr.loadAt, Instr.sureAddr, loadVar, Sem.run_bind, Sem.run_pure, Result.andThen_ok, hn]
  rw [if_neg (by decide), run_load, hc]
theorem rn_ldGps {g off : Nat} {t : TypeId} {cs : Array Value} {v : Value} {w : World} (h : o.op = .load 58 x) (hx : ρ x = .pointer (some ⟨g, off, none⟩)) (hB : Blk w g t cs) (hv : cs[off]? = some v) :
    (execOp ρ o).run Tryd.prog w = .ok (.value v) w := by
  unfold execOp
  simp only [h, hx, run_loadGps w ((hB.cell off).trans hv), Sem.run_bind, Sem.run_pure, Result.andThen_ok]
end
section
variable {ρ : Operand → Value} {o : Oper} {x y : Operand}
theorem rn_lenD {A : Option Addr} {n c : Nat} (h : o.op = .call { callee := .builtin .len, args := #[x], argTypes := #[31] }) (hv : ρ x = .slice A n c) (w : World) : (execOp ρ o).run Tryd.prog w = .ok (.value (.int .i64 n)) w := by
  obtain ⟨dst, op, ty, pos, after, guard⟩ := o
  simp only at h
  subst h
  go_simp
theorem rn_idxD {A : Addr} {n c i : Nat} {p : Value} (h : o.op = .indexAddr 31 x y) (hx : ρ x = .slice (some A) n c) (hy : ρ y = .int .i64 i) (hi : i < n) (hp : .pointer (some (A.add (i * 2))) = p) (w : World) : (execOp ρ o).run Tryd.prog w = .ok (.value p) w := by
  subst hp
  obtain ⟨dst, op, ty, pos, after, guard⟩ := o
  simp only at h
  subst h
  go_simp
theorem run_loadDs (w : World) {b o : Nat} {v : Value} (hc : w.cell? ⟨b, o, none⟩ = some v) : (Instr.loadAt 31 (.pointer (some ⟨b, o, none⟩))).run Tryd.prog w = .ok v w := by
  have hn : (isAgg 31).run Tryd.prog w = .ok false w := by simp [isAgg, run_underlying Tryd.underlying31]
  simp only [Instr.loadAt, Instr.sureAddr, loadVar, Sem.run_bind, Sem.run_pure, Result.andThen_ok, hn]
  rw [if_neg (by decide), run_load, hc]
theorem rn_ldDs {g off : Nat} {t : TypeId} {cs : Array Value} {v : Value} {w : World} (h : o.op = .load 31 x) (hx : ρ x = .pointer (some ⟨g, off, none⟩)) (hB : Blk w g t cs) (hv : cs[off]? = some v) :
    (execOp ρ o).run Tryd.prog w = .ok (.value v) w := by
  unfold execOp
  simp only [h, hx, run_loadDs w ((hB.cell off).trans hv), Sem.run_bind, Sem.run_pure, Result.andThen_ok]
end
section
variable {ρ : Operand → Value} {o : Oper} {x y : Operand}
theorem rn_eqPr {a : Option Addr} {b : Bool} (h : o.op = .binOp .eql 25 x (.const (.pointer none)) 25) (hx : ρ x = .pointer a) (hc : ∀ v, ρ (.const v) = v) (hb : a.isNone = b) (w : World) : (execOp ρ o).run Tryd.prog w = .ok (.value (.bool b)) w := by
  subst hb
  unfold execOp
  simp only [h, hx, hc]
  cases a <;> kernel_rfl
theorem rn_nePr {a : Option Addr} {b : Bool} (h : o.op = .binOp .neq 25 x (.const (.pointer none)) 25) (hx : ρ x = .pointer a) (hc : ∀ v, ρ (.const v) = v) (hb : (!a.isNone) = b) (w : World) : (execOp ρ o).run Tryd.prog w = .ok (.value (.bool b)) w := by
  subst hb
  unfold execOp
  simp only [h, hx, hc]
  cases a <;> kernel_rfl
theorem run_loadPr (w : World) {b o : Nat} {v : Value} (hc : w.cell? ⟨b, o, none⟩ = some v) : (Instr.loadAt 25 (.pointer (some ⟨b, o, none⟩))).run Tryd.prog w = .ok v w := by
  have hn : (isAgg 25).run Tryd.prog w = .ok false w := by simp [isAgg, run_underlying Tryd.underlying25]
  simp only [Instr.loadAt, Instr.sureAddr, loadVar, Sem.run_bind, Sem.run_pure, Result.andThen_ok, hn]
  rw [if_neg (by decide), run_load, hc]
theorem rn_ldPr {g off : Nat} {t : TypeId} {cs : Array Value} {v : Value} {w : World} (h : o.op = .load 25 x) (hx : ρ x = .pointer (some ⟨g, off, none⟩)) (hB : Blk w g t cs) (hv : cs[off]? = some v) :
    (execOp ρ o).run Tryd.prog w = .ok (.value v) w := by
  unfold execOp
  simp only [h, hx, run_loadPr w ((hB.cell off).trans hv), Sem.run_bind, Sem.run_pure, Result.andThen_ok]
theorem rn_eqPr0 (h : o.op = .binOp .eql 25 x (.const (.pointer none)) 25) (hx : ρ x = .pointer none) (hc : ∀ v, ρ (.const v) = v) (w : World) : (execOp ρ o).run Tryd.prog w = .ok (.value (.bool true)) w := rn_eqPr h hx hc rfl w
theorem rn_eqPr1 {p : Addr} (h : o.op = .binOp .eql 25 x (.const (.pointer none)) 25) (hx : ρ x = .pointer (some p)) (hc : ∀ v, ρ (.const v) = v) (w : World) : (execOp ρ o).run Tryd.prog w = .ok (.value (.bool false)) w := rn_eqPr h hx hc rfl w
theorem rn_nePr0 (h : o.op = .binOp .neq 25 x (.const (.pointer none)) 25) (hx : ρ x = .pointer none) (hc : ∀ v, ρ (.const v) = v) (w : World) : (execOp ρ o).run Tryd.prog w = .ok (.value (.bool false)) w := rn_nePr h hx hc rfl w
theorem rn_nePr1 {p : Addr} (h : o.op = .binOp .neq 25 x (.const (.pointer none)) 25) (hx : ρ x = .pointer (some p)) (hc : ∀ v, ρ (.const v) = v) (w : World) : (execOp ρ o).run Tryd.prog w = .ok (.value (.bool true)) w := rn_nePr h hx hc rfl w
theorem rn_box1i {i : Int} (h : o.op = .box 3 x) (hx : ρ x = .int .i64 i) (w : World) : (execOp ρ o).run Tryd.prog w = .ok (.value (.pointer (some ⟨w.heap.size, 0, none⟩))) (w.alloc (.cells #[.int .i64 i] 3)) := by
  unfold execOp
  simp only [h, hx]
  kernel_rfl
theorem rn_all1i (h : o.op = .alloc 3) (w : World) : (execOp ρ o).run Tryd.prog w = .ok (.value (.pointer (some ⟨w.heap.size, 0, none⟩))) (w.alloc (.cells #[.int .i64 0] 3)) := by
  unfold execOp
  simp only [h]
  kernel_rfl
theorem rn_all1l (h : o.op = .alloc 30) (w : World) : (execOp ρ o).run Tryd.prog w = .ok (.value (.pointer (some ⟨w.heap.size, 0, none⟩))) (w.alloc (.cells #[.slice none 0 0] 30)) := by
  unfold execOp
  simp only [h]
  kernel_rfl
theorem rn_all1e (h : o.op = .alloc 26) (w : World) : (execOp ρ o).run Tryd.prog w = .ok (.value (.pointer (some ⟨w.heap.size, 0, none⟩))) (w.alloc (.cells #[.int .i64 0] 26)) := by
  unfold execOp
  simp only [h]
  kernel_rfl
theorem rn_all1p (h : o.op = .alloc 25) (w : World) : (execOp ρ o).run Tryd.prog w = .ok (.value (.pointer (some ⟨w.heap.size, 0, none⟩))) (w.alloc (.cells #[.pointer none] 25)) := by
  unfold execOp
  simp only [h]
  kernel_rfl
theorem rn_bsRp2 {a b : Option Addr} (h : o.op = .buildSlice 61 2 #[(0, x), (1, y)]) (hx : ρ x = .pointer a) (hy : ρ y = .pointer b) (w : World) : (execOp ρ o).run Tryd.prog w = .ok (.value (.slice (some ⟨w.heap.size, 0, none⟩) 2 2)) (w.alloc (.cells #[.pointer a, .pointer b] 25)) := by
  have e : (Instr.buildSlice 61 2 #[(0, .pointer a), (1, .pointer b)]).run Tryd.prog w = .ok (.slice (some ⟨w.heap.size, 0, none⟩) 2 2) (w.alloc (.cells #[.pointer a, .pointer b] 25)) := by kernel_rfl
  unfold execOp
  simp only [h, List.map_toArray, List.map_cons, List.map_nil, hx, hy, Sem.run_bind, e, Result.andThen_ok, Sem.run_pure]
theorem rn_bsGp1 {a : Option Addr} (h : o.op = .buildSlice 58 1 #[(0, x)]) (hx : ρ x = .pointer a) (w : World) : (execOp ρ o).run Tryd.prog w = .ok (.value (.slice (some ⟨w.heap.size, 0, none⟩) 1 1)) (w.alloc (.cells #[.pointer a] 99)) := by
  have e : (Instr.buildSlice 58 1 #[(0, .pointer a)]).run Tryd.prog w = .ok (.slice (some ⟨w.heap.size, 0, none⟩) 1 1) (w.alloc (.cells #[.pointer a] 99)) := by kernel_rfl
  unfold execOp
  simp only [h, List.map_toArray, List.map_cons, List.map_nil, hx, Sem.run_bind, e, Result.andThen_ok, Sem.run_pure]
theorem rn_lenRp {A : Option Addr} {n c : Nat} (h : o.op = .call { callee := .builtin .len, args := #[x], argTypes := #[61] }) (hv : ρ x = .slice A n c) (w : World) : (execOp ρ o).run Tryd.prog w = .ok (.value (.int .i64 n)) w := by
  obtain ⟨dst, op, ty, pos, after, guard⟩ := o
  simp only at h
  subst h
  go_simp
theorem rn_idxRp {A : Addr} {n c i : Nat} {p : Value} (h : o.op = .indexAddr 61 x y) (hx : ρ x = .slice (some A) n c) (hy : ρ y = .int .i64 i) (hi : i < n) (hp : .pointer (some (A.add (i * 1))) = p) (w : World) : (execOp ρ o).run Tryd.prog w = .ok (.value p) w := by
  subst hp
  obtain ⟨dst, op, ty, pos, after, guard⟩ := o
  simp only at h
  subst h
  go_simp
theorem rn_bsD1 {i j : Int} (h : o.op = .buildSlice 31 1 #[(0, x)]) (hx : ρ x = .agg #[.int .i64 i, .int .i64 j]) (w : World) : (execOp ρ o).run Tryd.prog w = .ok (.value (.slice (some ⟨w.heap.size, 0, none⟩) 1 1)) (w.alloc (.cells #[.int .i64 i, .int .i64 j] 105)) := by
  have e : (Instr.buildSlice 31 1 #[(0, .agg #[.int .i64 i, .int .i64 j])]).run Tryd.prog w = .ok (.slice (some ⟨w.heap.size, 0, none⟩) 1 1) (w.alloc (.cells #[.int .i64 i, .int .i64 j] 105)) := by kernel_rfl
  unfold execOp
  simp only [h, List.map_toArray, List.map_cons, List.map_nil, hx, Sem.run_bind, e, Result.andThen_ok, Sem.run_pure]
theorem rn_quoI {i j r : Int} (h : o.op = .binOp .quo 3 x y 3) (hx : ρ x = .int .i64 i) (hy : ρ y = .int .i64 j) (hj : j ≠ 0) (hr : IntKind.i64.wrap (i.tdiv j) = r) (w : World) : (execOp ρ o).run Tryd.prog w = .ok (.value (.int .i64 r)) w := by
  subst hr
  have hu := Tryd.underlying3
  obtain ⟨dst, op, ty, pos, after, guard⟩ := o
  simp only at h
  subst h
  simp [execOp, hx, hy, eqGuard_quo, binOp_quo, Op.intDiv, hj]
end
/-- A pointer to a page, or none, in a row. -/
def rPt : Rec (Option Nat) where
  sz := 1
  ty := 99
  sl := 58
  ls q := [.pointer (q.map fun k => ⟨k, 0, none⟩)]
  z := .pointer none
  by_ := 8
  len _ := rfl
  pos := by decide
  one x u hu := by
    simp only [List.mem_cons, List.not_mem_nil, or_false] at hu
    subst hu
    cases x <;> rfl
  info := by kernel_rfl
  zc := rfl
  small := by decide
  und := Tryd.underlying58
  row h := absurd rfl h
theorem zPt_ls : rPt.z.cells.toList = rPt.ls none := rfl
/-- A page of the specification. -/
def rPg : Rec (Int × Int) where
  sz := 2
  ty := 105
  sl := 31
  ls x := [.int .i64 x.1, .int .i64 x.2]
  z := .agg #[.int .i64 0, .int .i64 0]
  by_ := 16
  len _ := rfl
  pos := by decide
  one x u hu := by
    simp only [List.mem_cons, List.not_mem_nil, or_false] at hu
    rcases hu with rfl | rfl <;> rfl
  info := by kernel_rfl
  zc := rfl
  small := by decide
  und := Tryd.underlying31
  row _ := ⟨_, undD, rfl⟩
/-- A call of the law, as it lies in memory. -/
structure BV where
  wh : Int
  i : Int
  j : Int
  A : Option Addr
  n : Nat
  c : Nat
  s : Bool
def BV.ls (x : BV) : List Value := [.int .i64 x.wh, .int .i64 x.i, .int .i64 x.j, .slice x.A x.n x.c, .bool x.s]
def rB : Rec BV where
  sz := 5
  ty := 38
  sl := 22
  ls := BV.ls
  z := .agg #[.int .i64 0, .int .i64 0, .int .i64 0, .slice none 0 0, .bool false]
  by_ := 56
  len _ := rfl
  pos := by decide
  one x u hu := by
    simp only [BV.ls, List.mem_cons, List.not_mem_nil, or_false] at hu
    rcases hu with rfl | rfl | rfl | rfl | rfl <;> rfl
  info := by kernel_rfl
  zc := rfl
  small := by decide
  und := Tryd.underlying22
  row _ := ⟨_, undA, rfl⟩
section
variable {ρ : Operand → Value} {o : Oper} {x y : Operand}
theorem rn_ldBv {w : World} {b off o0 i n : Nat} {xs : List BV} {wh j k : Int} {A : Option Addr} {n' c : Nat} {s : Bool} (h : o.op = .load 38 x) (hx : ρ x = .pointer (some ⟨b, off, none⟩)) (hr : RdG rB w b (some ⟨b, o0, none⟩) n xs) (hoff : off = o0 + i * 5) (hc : xs[i]? = some ⟨wh, j, k, A, n', c, s⟩) :
    (execOp ρ o).run Tryd.prog w = .ok (.value (.agg #[.int .i64 wh, .int .i64 j, .int .i64 k, .slice A n' c, .bool s])) w := rn_loadG hr h hx hoff hc
theorem rn_ldBv2 {w : World} {b off o0 i n : Nat} {xs : List BV} {x' : BV} (h : o.op = .load 34 x) (hx : ρ x = .pointer (some ⟨b, off, none⟩)) (hr : RdG rB w b (some ⟨b, o0, none⟩) n xs) (hoff : off = o0 + i * 5 + 3 + 0) (hc : xs[i]? = some x') :
    (execOp ρ o).run Tryd.prog w = .ok (.value (.slice x'.A x'.n x'.c)) w := by
  have hcell := (hr.cells hc) 3 (.slice x'.A x'.n x'.c) rfl
  subst hoff
  unfold execOp
  simp only [h, hx, run_loadS w (show w.cell? ⟨b, o0 + i * 5 + 3 + 0, none⟩ = _ from hcell), Sem.run_bind, Sem.run_pure, Result.andThen_ok]
/-- A pointer to a page is loaded from a row of pages. -/
theorem rn_ldPt {w : World} {b off o0 i n : Nat} {qs : List (Option Nat)} {q : Nat} (h : o.op = .load 99 x) (hx : ρ x = .pointer (some ⟨b, off, none⟩)) (hr : RdG rPt w b (some ⟨b, o0, none⟩) n qs) (hoff : off = o0 + i * 1) (hc : qs[i]? = some (some q)) :
    (execOp ρ o).run Tryd.prog w = .ok (.value (.pointer (some ⟨q, 0, none⟩))) w := by
  have hcell : w.cell? ⟨b, o0 + i * 1, none⟩ = some (.pointer (some ⟨q, 0, none⟩)) := (hr.cells hc) 0 (.pointer (some ⟨q, 0, none⟩)) rfl
  subst hoff
  unfold execOp
  simp only [h, hx, run_loadPs w hcell, Sem.run_bind, Sem.run_pure, Result.andThen_ok]
end
end Go.Proofs.YtlpjhaghphmbeaaDoor
namespace Go.Proofs.YtlpjhaghphmbeaaDoor
open Go.RowKit

/-- A page: how many places are gone, and its lines. -/
abbrev Pg := Nat × List Ln
abbrev flatP (P : List Pg) : List Ln := P.flatMap (·.2)
/-- Pages as rings have them. -/
def PgOk (pl : Nat) : List Pg → Prop
  | [] => True
  | x :: P => 1 ≤ x.2.length ∧ x.1 + x.2.length ≤ pl ∧ (P ≠ [] → x.1 + x.2.length = pl) ∧ (∀ y ∈ P, y.1 = 0) ∧ PgOk pl P
def addP (pl : Nat) : List Pg → Ln → List Pg
  | [], l => [(0, [l])]
  | [x], l => if x.1 + x.2.length = pl then [x, (0, [l])] else [(x.1, x.2 ++ [l])]
  | x :: y :: P, l => x :: addP pl (y :: P) l
def dropP : List Pg → List Pg
  | [] => []
  | x :: P => if x.2.length ≤ 1 then P else (x.1 + 1, x.2.drop 1) :: P
def popP : List Pg → List Pg
  | [] => []
  | [x] => if x.2.length ≤ 1 then [] else [(x.1, x.2.take (x.2.length - 1))]
  | x :: y :: P => x :: popP (y :: P)
def g0P (P : List Pg) : Nat := (P.head?.map (·.1)).getD 0
/-- On which page, and where on it, the line number k is. -/
def fndP (pl g0 k : Nat) : Nat × Nat := ((k + g0) / pl, if (k + g0) / pl = 0 then (k + g0) % pl - g0 else (k + g0) % pl)

section
variable {pl : Nat} {P Y : List Pg} {x : Pg} {l : Ln}
theorem flatP_cons : flatP (x :: P) = x.2 ++ flatP P := rfl
theorem addP_snoc : addP pl (Y ++ [x]) l = if x.1 + x.2.length = pl then Y ++ [x, (0, [l])] else Y ++ [(x.1, x.2 ++ [l])] := by
  induction Y with
  | nil => rfl
  | cons y Y ih =>
    cases Y with
    | nil => simp only [List.nil_append, List.cons_append] at ih ⊢; rw [addP, ih]; split <;> rfl
    | cons z Y =>
      simp only [List.cons_append] at ih ⊢
      rw [addP, ih]
      split <;> rfl
theorem addP_flat : flatP (addP pl P l) = flatP P ++ [l] := by
  induction P with
  | nil => rfl
  | cons x P ih =>
    cases P with
    | nil => unfold addP; split <;> simp [flatP]
    | cons y P => rw [addP, flatP_cons, ih, flatP_cons (x := x), List.append_assoc]
theorem addP_zero (h : ∀ y ∈ P, y.1 = 0) : ∀ y ∈ addP pl P l, y.1 = 0 := by
  induction P with
  | nil => simp [addP]
  | cons x P ih =>
    cases P with
    | nil =>
      have := h x (by simp)
      unfold addP
      split <;> simp [this]
    | cons z P =>
      intro y hy
      rw [addP] at hy
      rcases List.mem_cons.1 hy with rfl | hy
      · exact h _ (by simp)
      · exact ih (fun y hy => h y (List.mem_cons_of_mem _ hy)) y hy
theorem addP_ok (hpl : 1 ≤ pl) (h : PgOk pl P) : PgOk pl (addP pl P l) := by
  induction P with
  | nil => exact ⟨by simp, by simpa using hpl, fun h => absurd rfl h, by simp, trivial⟩
  | cons x P ih =>
    obtain ⟨h1, h2, h3, h4, h5⟩ := h
    cases P with
    | nil =>
      unfold addP
      split
      · rename_i he
        exact ⟨h1, h2, fun _ => he, by simp, by simp, by simpa using hpl, fun h => absurd rfl h, by simp, trivial⟩
      · exact ⟨by simp, by simp; omega, fun h => absurd rfl h, by simp, trivial⟩
    | cons y P =>
      rw [addP]
      exact ⟨h1, h2, fun _ => h3 (by simp), addP_zero h4, ih h5⟩
theorem dropP_flat (h : PgOk pl P) : flatP (dropP P) = (flatP P).drop 1 := by
  cases P with
  | nil => rfl
  | cons x P =>
    obtain ⟨h1, _⟩ := h
    obtain ⟨g, L⟩ := x
    match L, h1 with
    | [a], _ => rfl
    | a :: b :: L, _ => rfl
theorem dropP_ok (h : PgOk pl P) : PgOk pl (dropP P) := by
  cases P with
  | nil => exact h
  | cons x P =>
    obtain ⟨h1, h2, h3, h4, h5⟩ := h
    by_cases hx : x.2.length ≤ 1
    · rw [show dropP (x :: P) = P from if_pos hx]
      exact h5
    · rw [show dropP (x :: P) = (x.1 + 1, x.2.drop 1) :: P from if_neg hx]
      exact ⟨by simp; omega, by simp; omega, fun hn => by have := h3 hn; simp; omega, h4, h5⟩
theorem popP_snoc : popP (Y ++ [x]) = if x.2.length ≤ 1 then Y else Y ++ [(x.1, x.2.take (x.2.length - 1))] := by
  induction Y with
  | nil => rfl
  | cons y Y ih =>
    cases Y with
    | nil => simp only [List.nil_append, List.cons_append] at ih ⊢; rw [popP, ih]; split <;> rfl
    | cons z Y =>
      simp only [List.cons_append] at ih ⊢
      rw [popP, ih]
      split <;> rfl
theorem PgOk.last {z : Pg} : ∀ {P : List Pg}, PgOk pl (P ++ [z]) → 1 ≤ z.2.length
  | [], h => h.1
  | _ :: P, h => PgOk.last (P := P) h.2.2.2.2
theorem popP_cut {k : Nat} (hk : x.2.length = k + 1) : popP (Y ++ [x]) = if k = 0 then Y else Y ++ [(x.1, x.2.take k)] := by
  rw [popP_snoc]
  simp only [hk]
  by_cases hk0 : k = 0
  · rw [if_pos (by omega), if_pos hk0]
  · rw [if_neg (by omega), if_neg hk0, Nat.add_sub_cancel]
theorem flatP_snoc : flatP (Y ++ [x]) = flatP Y ++ x.2 := by simp [flatP]
theorem popP_flat (h : PgOk pl P) : flatP (popP P) = (flatP P).take ((flatP P).length - 1) := by
  induction P with
  | nil => rfl
  | cons x P ih =>
    obtain ⟨h1, h2, h3, h4, h5⟩ := h
    cases P with
    | nil =>
      unfold popP
      split
      · have : x.2.length = 1 := by omega
        simp [flatP, this]
      · simp [flatP]
    | cons y P =>
      rw [popP, flatP_cons, ih h5, flatP_cons (P := y :: P)]
      have : 1 ≤ (flatP (y :: P)).length := by rw [flatP_cons]; have := h5.1; simp; omega
      rw [List.take_append, List.length_append]
      rw [List.take_of_length_le (show x.2.length ≤ x.2.length + (flatP (y :: P)).length - 1 from by omega)]
      congr 2
      omega
theorem popP_zero (h : ∀ y ∈ P, y.1 = 0) : ∀ y ∈ popP P, y.1 = 0 := by
  induction P with
  | nil => simp [popP]
  | cons x P ih =>
    cases P with
    | nil =>
      have := h x (by simp)
      unfold popP
      split <;> simp [this]
    | cons z P =>
      intro y hy
      rw [popP] at hy
      rcases List.mem_cons.1 hy with rfl | hy
      · exact h _ (by simp)
      · exact ih (fun y hy => h y (List.mem_cons_of_mem _ hy)) y hy
theorem popP_ok (h : PgOk pl P) : PgOk pl (popP P) := by
  induction P with
  | nil => exact h
  | cons x P ih =>
    obtain ⟨h1, h2, h3, h4, h5⟩ := h
    cases P with
    | nil =>
      unfold popP
      split
      · trivial
      · exact ⟨by simp; omega, by simp; omega, fun h => absurd rfl h, by simp, trivial⟩
    | cons y P =>
      rw [popP]
      exact ⟨h1, h2, fun _ => h3 (by simp), popP_zero h4, ih h5⟩
/-- Where a number's line is: beyond what the pages before it hold. -/
theorem fnd_drop (hpl : 1 ≤ pl) : ∀ (P : List Pg) (k : Nat), PgOk pl P → k ≤ (flatP P).length → (fndP pl (g0P P) k).1 ≤ P.length ∧ (flatP (P.drop (fndP pl (g0P P) k).1)).drop (fndP pl (g0P P) k).2 = (flatP P).drop k ∧
    (k < (flatP P).length → ∃ x, P[(fndP pl (g0P P) k).1]? = some x ∧ (fndP pl (g0P P) k).2 < x.2.length ∧ x.2[(fndP pl (g0P P) k).2]? = (flatP P)[k]? ∧ ∀ l, flatP (P.set (fndP pl (g0P P) k).1 (x.1, x.2.set (fndP pl (g0P P) k).2 l)) = (flatP P).set k l)
  | [], k, _, hk => by
    simp only [flatP, List.flatMap_nil, List.length_nil, Nat.le_zero] at hk
    subst hk
    have e : fndP pl (g0P []) 0 = (0, 0) := by simp [fndP, g0P]
    rw [e]
    exact ⟨Nat.le_refl _, rfl, fun h => by simp [flatP] at h⟩
  | x :: P, k, h, hk => by
    obtain ⟨h1, h2, h3, h4, h5⟩ := h
    have eg : g0P (x :: P) = x.1 := rfl
    rw [eg]
    rw [flatP_cons] at hk ⊢
    rw [List.length_append] at hk
    by_cases hlt : k + x.1 < pl
    · have e : fndP pl x.1 k = (0, k) := by
        unfold fndP
        rw [Nat.div_eq_of_lt hlt, Nat.mod_eq_of_lt hlt]
        simp
      rw [e]
      refine ⟨Nat.zero_le _, rfl, fun hk' => ?_⟩
      have hkx : k < x.2.length := by
        rw [List.length_append] at hk'
        by_cases hn : P = []
        · subst hn
          simpa [flatP] using hk'
        · have := h3 hn
          omega
      refine ⟨x, rfl, hkx, (List.getElem?_append_left hkx).symm, fun l => ?_⟩
      rw [List.set_cons_zero, flatP_cons, List.set_append_left _ _ hkx]
    · by_cases hn : P = []
      · subst hn
        simp only [flatP, List.flatMap_nil, List.length_nil, Nat.add_zero, List.append_nil] at hk ⊢
        have hkx : k + x.1 = pl := by omega
        have e : fndP pl x.1 k = (1, 0) := by
          unfold fndP
          rw [hkx, Nat.div_self (by omega), Nat.mod_self]
          rfl
        rw [e]
        refine ⟨by simp, ?_, fun hk' => by omega⟩
        rw [List.drop_of_length_le (show x.2.length ≤ k by omega)]
        rfl
      · have hf := h3 hn
        have eg' : g0P P = 0 := by
          cases P with
          | nil => exact absurd rfl hn
          | cons y P => exact h4 y (by simp)
        obtain ⟨k', rfl⟩ : ∃ k', k = k' + x.2.length := ⟨k - x.2.length, by omega⟩
        have e : fndP pl x.1 (k' + x.2.length) = ((fndP pl (g0P P) k').1 + 1, (fndP pl (g0P P) k').2) := by
          rw [eg']
          unfold fndP
          have : k' + x.2.length + x.1 = k' + pl := by omega
          rw [this, Nat.add_div_right _ (by omega), Nat.add_mod_right]
          simp
        obtain ⟨i1, i2, i3⟩ := fnd_drop hpl P k' h5 (by omega)
        rw [e]
        refine ⟨by simpa using i1, ?_, fun hk' => ?_⟩
        · rw [List.drop_succ_cons, i2, Nat.add_comm k', List.drop_append]
          simp
        · rw [List.length_append] at hk'
          obtain ⟨y, j1, j2, j3, j4⟩ := i3 (by omega)
          refine ⟨y, by simpa using j1, j2, ?_, fun l => ?_⟩
          · rw [j3, List.getElem?_append_right (by omega)]
            congr 1
            omega
          · rw [List.set_cons_succ, flatP_cons, j4, List.set_append_right _ _ (by omega)]
            congr 2
            omega
theorem fnd_ix (hpl : 1 ≤ pl) : ∀ (P : List Pg) (k : Nat), PgOk pl P → k ≤ (flatP P).length → ∀ x, P[(fndP pl (g0P P) k).1]? = some x → (fndP pl (g0P P) k).2 ≤ x.2.length
  | [], k, _, _, x, hx => by simp at hx
  | y :: P, k, h, hk, x, hx => by
    obtain ⟨h1, h2, h3, h4, h5⟩ := h
    have eg : g0P (y :: P) = y.1 := rfl
    rw [eg] at hx ⊢
    rw [flatP_cons] at hk
    rw [List.length_append] at hk
    by_cases hlt : k + y.1 < pl
    · have e : fndP pl y.1 k = (0, k) := by
        unfold fndP
        rw [Nat.div_eq_of_lt hlt, Nat.mod_eq_of_lt hlt]
        simp
      rw [e] at hx ⊢
      simp only [List.getElem?_cons_zero, Option.some.injEq] at hx
      subst hx
      show k ≤ y.2.length
      by_cases hn : P = []
      · subst hn
        simpa [flatP] using hk
      · have := h3 hn
        omega
    · by_cases hn : P = []
      · subst hn
        simp only [flatP, List.flatMap_nil, List.length_nil, Nat.add_zero] at hk
        have hkx : k + y.1 = pl := by omega
        have e : fndP pl y.1 k = (1, 0) := by
          unfold fndP
          rw [hkx, Nat.div_self (by omega), Nat.mod_self]
          rfl
        rw [e]
        exact Nat.zero_le _
      · have hf := h3 hn
        have eg' : g0P P = 0 := by
          cases P with
          | nil => exact absurd rfl hn
          | cons y P => exact h4 y (by simp)
        obtain ⟨k', rfl⟩ : ∃ k', k = k' + y.2.length := ⟨k - y.2.length, by omega⟩
        have e : fndP pl y.1 (k' + y.2.length) = ((fndP pl (g0P P) k').1 + 1, (fndP pl (g0P P) k').2) := by
          rw [eg']
          unfold fndP
          have : k' + y.2.length + y.1 = k' + pl := by omega
          rw [this, Nat.add_div_right _ (by omega), Nat.add_mod_right]
          simp
        rw [e] at hx ⊢
        exact fnd_ix hpl P k' h5 (by omega) x (by simpa using hx)
theorem PgOk.count (h : PgOk pl P) : (P.length - 2) * pl ≤ (flatP P).length := by
  have tail : ∀ P : List Pg, PgOk pl P → (∀ y ∈ P, y.1 = 0) → (P.length - 1) * pl ≤ (flatP P).length := by
    intro P
    induction P with
    | nil => intro _ _; simp
    | cons x P ih =>
      intro h hz
      obtain ⟨h1, h2, h3, h4, h5⟩ := h
      rw [flatP_cons, List.length_append]
      by_cases hn : P = []
      · subst hn
        simp
      · have := ih h5 h4
        have hx := hz x (by simp)
        have := h3 hn
        obtain ⟨m, hm⟩ : ∃ m, P.length = m + 1 := ⟨P.length - 1, by have := List.length_pos_iff.2 hn; omega⟩
        simp only [List.length_cons, hm, Nat.add_sub_cancel] at *
        rw [Nat.succ_mul]
        omega
  cases P with
  | nil => simp
  | cons x P =>
    obtain ⟨h1, h2, h3, h4, h5⟩ := h
    have := tail P h5 h4
    rw [flatP_cons, List.length_append]
    simp only [List.length_cons]
    have e : P.length + 1 - 2 = P.length - 1 := by omega
    rw [e]
    omega
end

/-- A ring: the limit, the places of a page, the number of the first line, the pages. -/
structure RS where
  mo : Nat
  pl : Nat
  fi : Nat
  P : List Pg
abbrev RS.L (R : RS) : List Ln := flatP R.P
abbrev RS.nx (R : RS) : Nat := R.fi + R.L.length
def bigN : Nat := 1000000000
structure RgOk (R : RS) : Prop where
  pl1 : 1 ≤ R.pl
  pl2 : R.pl ≤ 1024
  mo : R.mo ≤ 1048576
  pg : PgOk R.pl R.P
  len : R.L.length ≤ R.mo
  nx : R.nx ≤ bigN
  ln : ∀ l ∈ R.L, okL l.1 = true
/-- The first line is evicted. -/
def ev1 (R : RS) : RS := { R with fi := R.fi + 1, P := dropP R.P }
def evN : Nat → RS → RS
  | 0, R => R
  | n + 1, R => evN n (ev1 R)
def evR (R : RS) : RS := evN (R.L.length - R.mo) R
def pushR (R : RS) (l : Ln) : RS × Int × Int := if okL l.1 = true then (evR { R with P := addP R.pl R.P l }, (R.nx : Int), 0) else (R, 0, 2)
def adR (R : RS) (l : Ln) : RS := { R with P := addP R.pl R.P l }
def popR (R : RS) : RS × Ln × Int := if R.L.length = 0 then (R, zLn, 9) else ({ R with P := popP R.P }, R.L.getD (R.L.length - 1) zLn, 0)
def missR (R : RS) (n : Int) : Int := if n < 0 ∨ (R.nx : Int) ≤ n then 3 else if n < (R.fi : Int) then 14 else 0
def getR (R : RS) (n : Int) : Ln × Int := if missR R n = 0 then (R.L.getD (n - R.fi).toNat zLn, 0) else (zLn, missR R n)
def setP (R : RS) (k : Nat) (l : Ln) : List Pg := R.P.set (fndP R.pl (g0P R.P) k).1 (((R.P[(fndP R.pl (g0P R.P) k).1]?).getD (0, [])).1, (((R.P[(fndP R.pl (g0P R.P) k).1]?).getD (0, [])).2).set (fndP R.pl (g0P R.P) k).2 l)
def setR (R : RS) (n : Int) (l : Ln) : RS × Int := if okL l.1 = true then if missR R n = 0 then ({ R with P := setP R (n - R.fi).toNat l }, 0) else (R, missR R n) else (R, 2)
def rangeE (R : RS) (a b : Int) : Int := if a < 0 ∨ b < a ∨ (R.nx : Int) < b then 3 else if a < (R.fi : Int) then 14 else 0
def rangeL (R : RS) (a b : Int) : List Ln := if rangeE R a b = 0 then (R.L.drop (a - R.fi).toNat).take (b - a).toNat else []
def limitR (R : RS) (n : Int) : RS × Int := if 0 ≤ n ∧ n ≤ 1048576 then (evR { R with mo := n.toNat }, 0) else (R, 2)
def clearR (R : RS) : RS := { R with fi := R.nx, P := [] }

section
variable {R : RS} {l : Ln}
theorem evN_keep : ∀ (n : Nat) (R : RS), (evN n R).mo = R.mo ∧ (evN n R).pl = R.pl
  | 0, _ => ⟨rfl, rfl⟩
  | n + 1, R => evN_keep n (ev1 R)
theorem evN_ok : ∀ (n : Nat) (R : RS), PgOk R.pl R.P → n ≤ R.L.length → PgOk R.pl (evN n R).P ∧ (evN n R).L = R.L.drop n ∧ (evN n R).fi = R.fi + n
  | 0, _, h, _ => ⟨h, rfl, rfl⟩
  | n + 1, R, h, hn => by
    have hf : (ev1 R).L = R.L.drop 1 := dropP_flat h
    obtain ⟨i1, i2, i3⟩ := evN_ok n (ev1 R) (dropP_ok h) (by rw [hf, List.length_drop]; omega)
    refine ⟨i1, ?_, ?_⟩
    · show (evN n (ev1 R)).L = _
      rw [i2, hf, List.drop_drop, Nat.add_comm]
    · show (evN n (ev1 R)).fi = _
      rw [i3]
      show R.fi + 1 + n = _
      omega
theorem evR_stop (h : R.L.length ≤ R.mo) : evR R = R := by
  unfold evR
  rw [Nat.sub_eq_zero_of_le h]
  rfl
theorem evR_step (h : PgOk R.pl R.P) (hl : R.mo < R.L.length) : evR R = evR (ev1 R) := by
  have hf : (ev1 R).L = R.L.drop 1 := dropP_flat h
  obtain ⟨k, hk⟩ : ∃ k, R.L.length - R.mo = k + 1 := ⟨R.L.length - R.mo - 1, by omega⟩
  have hk2 : (ev1 R).L.length - (ev1 R).mo = k := by
    rw [hf, List.length_drop]
    show R.L.length - 1 - R.mo = k
    omega
  unfold evR
  rw [hk, hk2]
  rfl
theorem PgOk.len_le {pl : Nat} : ∀ {P : List Pg}, PgOk pl P → P.length ≤ (flatP P).length
  | [], _ => Nat.le_refl _
  | x :: P, h => by
    have := PgOk.len_le h.2.2.2.2
    have := h.1
    rw [flatP_cons, List.length_append, List.length_cons]
    omega
theorem evR_keep (R : RS) : (evR R).mo = R.mo ∧ (evR R).pl = R.pl := evN_keep _ R
theorem evR_ok (h : PgOk R.pl R.P) : PgOk R.pl (evR R).P ∧ (evR R).L = R.L.drop (R.L.length - R.mo) ∧ (evR R).fi = R.fi + (R.L.length - R.mo) := evN_ok _ R h (by omega)
theorem evR_rg (h1 : 1 ≤ R.pl) (h2 : R.pl ≤ 1024) (h3 : R.mo ≤ 1048576) (h4 : PgOk R.pl R.P) (h5 : R.nx ≤ bigN) (h6 : ∀ l ∈ R.L, okL l.1 = true) : RgOk (evR R) := by
  obtain ⟨i1, i2, i3⟩ := evR_ok h4
  obtain ⟨j1, j2⟩ := evR_keep R
  refine ⟨by rw [j2]; exact h1, by rw [j2]; exact h2, by rw [j1]; exact h3, by rw [j2]; exact i1, by rw [i2, j1, List.length_drop]; omega, ?_, fun l hl => h6 l ?_⟩
  · have : R.fi + R.L.length ≤ bigN := h5
    unfold RS.nx
    rw [i2, i3, List.length_drop]
    omega
  · rw [i2] at hl
    exact List.mem_of_mem_drop hl
theorem evR_nx (h : PgOk R.pl R.P) : (evR R).nx = R.nx := by
  obtain ⟨i1, i2, i3⟩ := evR_ok h
  unfold RS.nx
  rw [i2, i3, List.length_drop]
  omega
theorem adR_L : (adR R l).L = R.L ++ [l] := addP_flat
theorem adR_nx : (adR R l).nx = R.nx + 1 := by
  unfold RS.nx
  rw [adR_L, List.length_append, List.length_singleton]
  rfl
theorem push_t (hl : okL l.1 = true) : pushR R l = (evR (adR R l), (R.nx : Int), 0) := if_pos hl
theorem push_f (hl : okL l.1 = false) : pushR R l = (R, 0, 2) := by unfold pushR; rw [if_neg (by rw [hl]; decide)]
theorem push_rg (h : RgOk R) (hn : R.nx < bigN) : RgOk (pushR R l).1 := by
  unfold pushR
  split
  · rename_i hl
    refine evR_rg (R := { R with P := addP R.pl R.P l }) h.pl1 h.pl2 h.mo (addP_ok h.pl1 h.pg) ?_ ?_
    · show R.fi + (flatP (addP R.pl R.P l)).length ≤ bigN
      rw [addP_flat, List.length_append, List.length_singleton]
      exact hn
    · intro m hm
      rw [show ({ R with P := addP R.pl R.P l } : RS).L = R.L ++ [l] from addP_flat] at hm
      rcases List.mem_append.1 hm with hm | hm
      · exact h.ln m hm
      · simp at hm
        subst hm
        exact hl
  · exact h
theorem pop_rg (h : RgOk R) : RgOk (popR R).1 := by
  unfold popR
  split
  · exact h
  · have hf : flatP (popP R.P) = R.L.take (R.L.length - 1) := popP_flat h.pg
    refine ⟨h.pl1, h.pl2, h.mo, popP_ok h.pg, ?_, ?_, fun l hl => h.ln l ?_⟩
    · show (flatP (popP R.P)).length ≤ R.mo
      rw [hf, List.length_take]
      have := h.len
      omega
    · show R.fi + (flatP (popP R.P)).length ≤ bigN
      rw [hf, List.length_take]
      have : R.fi + R.L.length ≤ bigN := h.nx
      omega
    · have hl : l ∈ flatP (popP R.P) := hl
      rw [hf] at hl
      exact List.mem_of_mem_take hl
theorem limit_rg (h : RgOk R) (n : Int) : RgOk (limitR R n).1 := by
  unfold limitR
  split
  · exact evR_rg (R := { R with mo := n.toNat }) h.pl1 h.pl2 (show n.toNat ≤ 1048576 by omega) h.pg h.nx h.ln
  · exact h
theorem clear_rg (h : RgOk R) : RgOk (clearR R) := ⟨h.pl1, h.pl2, h.mo, trivial, Nat.zero_le _, h.nx, fun l hl => by cases hl⟩
theorem miss_zero {n : Int} (h : missR R n = 0) : ∃ k : Nat, n = (R.fi + k : Nat) ∧ k < R.L.length := by
  unfold missR at h
  split at h
  · cases h
  · split at h
    · cases h
    · refine ⟨(n - R.fi).toNat, by omega, ?_⟩
      have : (R.nx : Int) = R.fi + R.L.length := by unfold RS.nx; omega
      omega
/-- Pages whose lines are others, and as many. -/
theorem set_pgOk {pl : Nat} : ∀ (P : List Pg) (i : Nat) (L : List Ln), PgOk pl P → L.length = ((P[i]?).getD (0, [])).2.length → PgOk pl (P.set i (((P[i]?).getD (0, [])).1, L))
  | [], _, _, h, _ => by simpa using h
  | x :: P, 0, L, h, hl => by
    obtain ⟨h1, h2, h3, h4, h5⟩ := h
    simp only [List.getElem?_cons_zero, Option.getD_some] at hl
    exact ⟨by simpa [hl] using h1, by simpa [hl] using h2, fun hn => by simpa [hl] using h3 hn, h4, h5⟩
  | x :: P, i + 1, L, h, hl => by
    obtain ⟨h1, h2, h3, h4, h5⟩ := h
    simp only [List.getElem?_cons_succ] at hl
    simp only [List.set_cons_succ, List.getElem?_cons_succ]
    refine ⟨h1, h2, fun hn => h3 (fun e => hn (by simp [e])), fun y hy => ?_, set_pgOk P i L h5 hl⟩
    obtain ⟨j, hj, rfl⟩ := List.mem_iff_getElem.1 hy
    rw [List.getElem_set]
    split
    · rename_i e
      subst e
      simp only [List.length_set] at hj
      rw [List.getElem?_eq_getElem hj]
      have hz := h4 _ (List.getElem_mem hj)
      exact hz
    · exact h4 _ (List.getElem_mem _)
theorem setP_flat (h : RgOk R) {k : Nat} (hk : k < R.L.length) : flatP (setP R k l) = R.L.set k l := by
  obtain ⟨_, _, h3⟩ := fnd_drop h.pl1 R.P k h.pg (Nat.le_of_lt hk)
  obtain ⟨x, hx, _, _, hs⟩ := h3 hk
  unfold setP
  rw [hx]
  exact hs l
theorem setP_ok (h : RgOk R) {k : Nat} : PgOk R.pl (setP R k l) := set_pgOk _ _ _ h.pg (by simp)
theorem setP_lens {k : Nat} : (setP R k l).map (fun x => (x.1, x.2.length)) = R.P.map (fun x => (x.1, x.2.length)) := by
  unfold setP
  rw [List.map_set]
  simp only [List.length_set]
  refine List.ext_getElem? (fun j => ?_)
  rw [List.getElem?_set]
  split
  · rename_i e
    subst e
    split
    · rename_i hlt
      have hlt' : (fndP R.pl (g0P R.P) k).1 < R.P.length := by simpa using hlt
      simp [List.getElem?_eq_getElem hlt']
    · rename_i hlt
      rw [List.getElem?_eq_none (by simpa using hlt)]
  · rfl
theorem set_rg (h : RgOk R) {n : Int} : RgOk (setR R n l).1 := by
  unfold setR
  split
  · rename_i hl
    split
    · rename_i hm
      obtain ⟨k, rfl, hk⟩ := miss_zero hm
      have e : (((R.fi + k : Nat) : Int) - R.fi).toNat = k := by omega
      rw [e]
      have hf := setP_flat (l := l) h hk
      refine ⟨h.pl1, h.pl2, h.mo, setP_ok h, ?_, ?_, fun m hm => ?_⟩
      · show (flatP (setP R k l)).length ≤ R.mo
        rw [hf, List.length_set]
        exact h.len
      · show R.fi + (flatP (setP R k l)).length ≤ bigN
        rw [hf, List.length_set]
        exact h.nx
      · have hm : m ∈ flatP (setP R k l) := hm
        rw [hf] at hm
        rcases List.mem_or_eq_of_mem_set hm with hm | hm
        · exact h.ln m hm
        · subst hm
          exact hl
    · exact h
  · exact h
theorem pages_le (h : RgOk R) : R.P.length ≤ R.mo / R.pl + 2 := by
  have h1 := h.pg.count
  have h2 := h.len
  have h3 : R.P.length - 2 ≤ R.mo / R.pl := (Nat.le_div_iff_mul_le h.pl1).2 (Nat.le_trans h1 h2)
  omega
end
end Go.Proofs.YtlpjhaghphmbeaaDoor
namespace Go.Proofs.YtlpjhaghphmbeaaDoor
open Go.RowKit

/-- A round of the loop with record l, wherever it stands. -/
abbrev Wl (l : Nat) : Fence := Fence.wide.inRound l
/-- No operation that puts a call off. -/
def noDefer (o : Oper) : Bool := match o.op with
  | .defer _ => false
  | _ => true

section
variable {P : Program} {l n : Nat} {ops : Array Oper} {Q : Exit → Act → World → Prop} {a : Act} {w : World} {o : Oper} {K : Act → World → Prop} {md : Region.Mode}
theorem no_depth {m : Nat} : (Wl l).depth.isSome = true → 1 ≤ m := fun h => by simp [Fence.inRound, Fence.wide] at h
theorem noDefer_ne (hd : noDefer o = true) : ∀ c, o.op ≠ .defer c := fun c hc => by simp [noDefer, hc] at hd
theorem op_in (hd : noDefer o = true) (h : Oper.wp P o a w K Q) : Oper.wpIn (Wl l) n P o a w K Q := by
  refine ⟨fun _ _ => trivial, ?_⟩
  rw [Oper.semAt_plain (Wl l) a.eval o (noDefer_ne hd)]
  unfold Oper.wp at h
  generalize (execOp a.eval o).run P w = r at *
  cases r with
  | ok x w' =>
    cases x <;> simp only [Oper.upon, Oper.uponIn] at h ⊢ <;>
      first
        | exact h
        | exact ⟨no_depth, CallsIn.inRound l (callsIn_wide.2 h)⟩
        | exact ⟨no_depth, fun c cs _ => let ⟨v, w', r, s⟩ := h c cs; ⟨v, w', r, stepsIn_wide.2 s⟩⟩
        | exact False.elim h
  | halt x w' => cases x <;> simp only [Oper.upon, Oper.uponIn] at h ⊢ <;> exact h
theorem list_in (hQ : ¬ LetsOut Q) (L : List Oper) (hL : L.all noDefer = true) : ∀ a w, wpList P ops Q L a w → wpListIn (Wl l) n P ops Q L a w := by
  induction L with
  | nil => exact fun a w h => h
  | cons o L ih =>
    intro a w h
    simp only [List.all_cons, Bool.and_eq_true] at hL
    unfold wpList at h
    unfold wpListIn
    split
    · rename_i hw
      rw [if_pos hw] at h
      exact Oper.wpIn_mono (ih hL.2) (op_in hL.1 (h.resolve_right (fun h => hQ h.2)))
    · rename_i hw
      rw [if_neg hw] at h
      exact ⟨fun _ _ => trivial, ih hL.2 _ _ h⟩
theorem opn_in (hQ : ¬ LetsOut Q) (hops : ops.all noDefer = true) {i : Nat} (h : wpOp P ops Q i K a w) : wpOpIn (Wl l) n P ops Q i K a w := by
  unfold wpOp at h
  unfold wpOpIn
  split
  · rename_i hi
    rw [hi] at h
    exact h
  · rename_i o hi
    rw [hi] at h
    simp only at h
    have ho : noDefer o = true := by
      rw [Array.all_eq_true] at hops
      obtain ⟨hlt, rfl⟩ := Array.getElem?_eq_some_iff.1 hi
      exact hops i hlt
    split
    · rename_i hw
      rw [if_pos hw] at h
      exact op_in ho (h.resolve_right (fun h => hQ h.2))
    · rename_i hw
      rw [if_neg hw] at h
      exact ⟨fun _ _ => trivial, h⟩
theorem any_in (hQ : ¬ LetsOut Q) (hops : ops.all noDefer = true) : ∀ (fuel : Nat) (listed : Array Bool) (a : Act) (w : World), wpAny P md ops Q fuel listed a w → wpAnyIn (Wl l) n P md ops Q fuel listed a w
  | 0, _, _, _, h => h
  | fuel + 1, _, _, _, h => ⟨h.1, fun i hi => wpOpIn_mono (fun a w h => any_in hQ hops fuel _ a w h) (opn_in hQ hops (h.2 i hi))⟩
theorem rlit_in {id : Nat} {L : List Oper} (hL : L.all noDefer = true) (hQ : ¬ LetsOut Q) (h : wpList P L.toArray Q L a w) : (Code.region id L.toArray false).wpIn (Wl l) n P Q a w := wpIn_region_lit (list_in hQ L hL _ _ h)
theorem rheld_in {id : Nat} {S : World → Prop} (hops : ops.all noDefer = true) (hQ : ¬ LetsOut Q) (hm : P.follows .mixedOrders = true) (hS : S w.drew) (h : S w.drew → wpAnyH P .any ops Q S ops.size (Array.replicate ops.size false) a w.drew) : (Code.region id ops true).wpIn (Wl l) n P Q a w :=
  wpIn_region_any hm (any_in hQ hops _ _ _ _ (wpAny_of_held _ _ _ _ (h hS)))
/-- Loops whose rounds count down, in whatever fence. -/
theorem loop_in {G : Fence} {c : Code} (I : Nat → Act → World → Prop) (m : Nat) (h0 : I m a w) (round : ∀ m a w, I m a w → c.wpIn G n P (Exit.then (fun a' w' => ∃ m', m' < m ∧ I m' a' w') Q) a w) : (Code.loop c).wpIn G n P Q a w := by
  classical
  have hl : ∀ a w, (∃ m, I m a w) → ∃ m, I m a w ∧ ∀ k, I k a w → m ≤ k := fun a w ⟨m, h⟩ => least (fun m => I m a w) m h
  refine wpIn_loop (fun a w => ∃ m, I m a w) (fun a w => if h : ∃ m, I m a w then Classical.choose (hl a w h) else 0) ⟨m, h0⟩ (fun a w hI => ?_)
  have hm := Classical.choose_spec (hl a w hI)
  refine wpIn_mono (round _ a w hm.1) (fun e a' w' h => ?_)
  cases e with
  | normal =>
    obtain ⟨m', hlt, h'⟩ := h
    have hE : ∃ m, I m a' w' := ⟨m', h'⟩
    refine ⟨hE, ?_⟩
    simp only [dif_pos hE, dif_pos hI]
    exact Nat.lt_of_le_of_lt ((Classical.choose_spec (hl a' w' hE)).2 m' h') hlt
  | _ => exact h
end

/-! ### The record, and the block of what is put off -/
theorem putObj_fr (w : World) (k : Nat) (o : Obj) : Fr (fun j => j = k) w (w.putObj k o) := ⟨rfl, rfl, rfl, by rw [World.putObj_size]; exact Nat.le_refl _, fun j _ hj => World.putObj_heap_other hj⟩
/-- A block that is this object. -/
def objD (k : Nat) (o : Obj) : Dat where
  P w F := w.heap[k]? = some o ∧ F k
  fr := fun h hf hn => ⟨(hf.block k (Array.getElem?_eq_some_iff.1 h.1).1 (hn k h.2)).trans h.1, h.2⟩
  up := fun h hs => ⟨h.1, hs k h.2⟩
abbrev dfD (k : Nat) : Dat := objD k (.deferred (some []))
section
variable {r e w : World} {S0 : FP} {m : Nat} {ps : List Nat} {D : List Dat} {k : Nat} {o : Obj}
theorem Dt.obj (h : Dt r e S0 m ps (objD k o :: D) w) : w.heap[k]? = some o := by
  obtain ⟨F, hF⟩ := h.get (i := 0) rfl
  exact hF.1
theorem Dt.putObj (h : Dt r e S0 m ps (objD k o :: D) w) (o' : Obj) : Dt r e S0 m ps (objD k o' :: D) (w.putObj k o') ∧ ∀ H : List Bk, H.map (·.p) = ps → Hp r H w → Hp r H (w.putObj k o') := by
  obtain ⟨F, hA, hF, next⟩ := Dt.step (A := [objD k o]) h
  have hk := hA.the
  refine next [objD k o'] _ ⟨(putObj_fr w k o').weak (fun j _ hj => by subst hj; exact hk.2), F, SepL.one ⟨World.putObj_heap_same (Array.getElem?_eq_some_iff.1 hk.1).1, hk.2⟩, fun _ hj => .inl hj⟩
theorem Dt.putDrop (h : Dt r e S0 m ps (objD k o :: D) w) (o' : Obj) : Dt r e S0 m ps D (w.putObj k o') ∧ ∀ H : List Bk, H.map (·.p) = ps → Hp r H w → Hp r H (w.putObj k o') :=
  ⟨(h.putObj o').1.drop, (h.putObj o').2⟩
end
/-- The record of a loop. -/
def recL (fn : FuncId) (tmps : Array Value) (ps : Array Tmp) (assign body : Code) (df : Nat) (st : LoopState) (pe : Option Code) : Loop := { state := st, pending := pe, fn, tmps, params := ps, assign, body, defers := df }
/-- The world when such a loop begins. -/
abbrev laidL (w : World) (fn : FuncId) (tmps : Array Value) (ps : Array Tmp) (assign body : Code) : World := (w.alloc (.deferred (some []))).alloc (.loop (recL fn tmps ps assign body w.heap.size .ready none))
abbrev markL (df : Nat) : Deferred := { target := .collected df, args := #[] }
section
variable {P : Program} {Q : Exit → Act → World → Prop} {a : Act} {w : World} {n : Nat}
/-- The statement: the function's contract ends where the loop's record is shut. -/
theorem wp_rangeF {g : Operand} {ps : Array Tmp} {assign body : Code} {gf : FuncId} {fst lb : Array Value} (hg : a.eval g = .func (.func gf) fst lb) (eg : ∀ args w, (callFunc gf args).run P w = .ok (.enter gf args) w)
    (h : ∀ (fn : FuncId) (df l : Nat) (w1 : World), Made [objD l (.loop (recL fn a.tmps ps assign body df .ready none)), dfD df] w w1 →
      Calls P gf (fst ++ #[.func (.yield l) #[] #[]] ++ lb) w1 fun e w3 => ∃ v st pe, e = .returned v ∧ w3.heap[l]? = some (.loop (recL fn a.tmps ps assign body df st pe)) ∧ st ≠ .busy ∧
        (match pe with
         | none => Q .normal { a with defers := markL df :: a.defers } (w3.putObj l (.loop (recL fn a.tmps ps assign body df .exhausted pe)))
         | some c => c.wp P Q { a with defers := markL df :: a.defers } (w3.putObj l (.loop (recL fn a.tmps ps assign body df .exhausted pe))))) :
    (Code.rangeFunc g ps assign body).wp P Q a w := by
  refine (wpIn_wide (n := 2)).1 (wpIn_rangeFunc (fun fn _ => ?_))
  have hM : Made [objD (w.heap.size + 1) (.loop (recL fn a.tmps ps assign body w.heap.size .ready none)), dfD w.heap.size] w ((w.alloc (.deferred (some []))).alloc (.loop (recL fn a.tmps ps assign body w.heap.size .ready none))) := by
    refine ⟨((Fr.refl _ _).alloc _).alloc _, fun k => k = w.heap.size + 1 ∨ k = w.heap.size, ?_, fun k hk => .inr (by rcases hk with rfl | rfl <;> simp <;> omega)⟩
    refine SepL.two (F := fun k => k = w.heap.size + 1) (G := fun k => k = w.heap.size) ⟨?_, rfl⟩ ⟨?_, rfl⟩ (fun k h1 h2 => by omega)
    · have := World.alloc_heap_new (w.alloc (.deferred (some []))) (.loop (recL fn a.tmps ps assign body w.heap.size .ready none))
      rwa [World.size_alloc] at this
    · exact (((Fr.refl (fun _ => False) (w.alloc (.deferred (some [])))).alloc (.loop (recL fn a.tmps ps assign body w.heap.size .ready none))).block _ (by simp) (fun h => h)).trans (World.alloc_heap_new w _)
  refine ⟨w.heap.size + 1, [markL w.heap.size], laidL w fn a.tmps ps assign body, { target := .fn (.func gf) lb, args := fst ++ #[.func (.yield (w.heap.size + 1)) #[] #[]] }, laidL w fn a.tmps ps assign body, gf, fst ++ #[.func (.yield (w.heap.size + 1)) #[] #[]] ++ lb, laidL w fn a.tmps ps assign body, run_enterLoop_outer _ _ _ _ _, ?_, fun _ _ => trivial, ?_, fun _ => Nat.le_succ 1, callsIn_wide.2 ?_⟩
  · simp only [resolve, hg]
    simp [go_sem]
  · simp [invoke, go_sem, eg]
  · refine (h fn w.heap.size (w.heap.size + 1) _ hM).mono ?_
    rintro e w3 ⟨v, st, pe, rfl, hl, hb, hQ⟩
    refine ⟨pe, _, run_endLoop hl hb, ?_⟩
    cases pe with
    | none => exact hQ
    | some c => exact wpIn_wide.2 hQ
/-- One round, from a record that is ready. -/
theorem round_l {l : Nat} {fn : FuncId} {tmps : Array Value} {ps : Array Tmp} {assign body : Code} {df : Nat} {args : Array Value} {R : Ending → World → Prop} (hl : w.heap[l]? = some (.loop (recL fn tmps ps assign body df .ready none))) (hs : args.size = ps.size)
    (h : assign.wpIn (Wl l) n P (Exit.then (fun a1 w1 => w1 = w ∧ body.wpIn (Wl l) n P (roundPost P l R) a1 (w.putObj l (.loop (recL fn tmps ps assign body df .busy none)))) (fun _ _ _ => False)) { tmps := (ps.zip args).foldl (fun t (p, v) => t.setIfInBounds p v) tmps, defers := [] } w) :
    ∃ fn' tmps' assign' body', (Instr.yield l args).run P w = .ok (.round l fn' tmps' assign' body') w ∧ RoundIn Fence.wide n P l fn' tmps' assign' body' w R :=
  ⟨_, _, _, _, run_yield hl hs, roundIn_of_wpIn (F := Fence.wide) trivial (wpIn_mono h (fun e a1 w1 h => by
    cases e with
    | normal =>
      obtain ⟨rfl, h⟩ := h
      exact ⟨_, run_beginRound hl rfl, h⟩
    | _ => exact h.elim))⟩
end

/-! ### The way out of a function that has such a loop -/
section
variable {P : Program} {a : Act} {w : World} {fn : Func} {R : Ending → World → Prop} {N : Nat} {F : List (Nat × Value)}
def outP (P : Program) (fn : Func) (R : Ending → World → Prop) : Exit → Act → World → Prop
  | .normal, a, w | .ret, a, w => LeavesInM Fence.wide 2 P fn a.tmps R a.defers .returning w
  | _, _, _ => False
theorem calls_envM {f : FuncId} {c : Code} {vl : List Value} (N : Nat) (hf : P.funcs[f]? = some fn) (hb : fn.body = some c)
    (hN : fn.ntmps = N) (hl : Nat.ble vl.length N = true) (h : ∀ a, Env N (enumF 0 vl) a → c.wp P (outP P fn R) a w) : Calls P f vl.toArray w R := by
  have hl' : vl.length ≤ N := by simpa [Nat.ble_eq] using hl
  refine callsIn_wide.1 (callsIn_of_wp_marks (F := Fence.wide) (n := 2) hf hb trivial (wpIn_wide.2 (wp_mono (h _ ⟨?_, rfl, ?_⟩) (fun e a w q => by cases e <;> first | exact q | exact q.elim))))
  · simp only [hN, Array.size_append, Array.size_replicate, List.size_toArray]
    omega
  · intro k v hk
    obtain ⟨_, h2⟩ := lk_enumF vl 0 k v hk
    have hlt : k < vl.length := by
      have := (List.getElem?_eq_some_iff.1 h2).1
      omega
    simp only [Act.eval, Array.getD_eq_getD_getElem?, List.size_toArray]
    rw [Array.getElem?_append_left (by simpa using hlt), List.getElem?_toArray]
    simp only [Nat.sub_zero] at h2
    rw [h2]
    rfl
theorem out_plain (h : bodyPost P fn R .ret a w) : outP P fn R .ret a w := by
  obtain ⟨h1, v, h2, h3⟩ := h
  show LeavesInM Fence.wide 2 P fn a.tmps R a.defers .returning w
  rw [h1]
  exact ⟨v, h2, h3⟩
theorem out_mark {df : Nat} {v : Value} (hd : a.defers = [markL df]) (hk : w.heap[df]? = some (.deferred (some []))) (hr : (results fn a.tmps).run P (w.putObj df (.deferred none)) = .ok v (w.putObj df (.deferred none))) (hR : R (.returned v) (w.putObj df (.deferred none))) : outP P fn R .ret a w := by
  show LeavesInM Fence.wide 2 P fn a.tmps R a.defers .returning w
  rw [hd]
  exact ⟨by simp, .inl ⟨df, _, rfl, run_takeDeferred hk, v, hr, hR⟩⟩
theorem out_env {df : Nat} {t : Tmp} {v : Value} (hf : fn.results = #[.tmp t]) (he : EnvD [markL df] N F a) (hk : w.heap[df]? = some (.deferred (some []))) (hv : lk F t = some v) (hR : R (.returned v) (w.putObj df (.deferred none))) : outP P fn R .ret a w :=
  out_mark he.df hk ((results_tmp hf a.tmps P _).trans (by rw [show a.tmps.getD t undef = v from he.ev _ _ hv])) hR
end
end Go.Proofs.YtlpjhaghphmbeaaDoor
namespace Go.Proofs.YtlpjhaghphmbeaaDoor
open Go.RowKit

/-- A page as it lies in memory: where, how many places are gone, its lines. -/
structure PV where
  q : Nat
  gn : Nat
  L : List Ln
abbrev PV.pg (x : PV) : Pg := (x.gn, x.L)
abbrev ptV (q : Nat) : Value := .pointer (some ⟨q, 0, none⟩)
/-- A row of pointers. -/
def rowP (v : Value) (qs : List (Option Nat)) : Dat where
  P w F := OwnO rPt w F v qs
  fr h hf hn := h.fr hf hn
  up h hs := h.up hs
abbrev pagD (pl : Nat) (x : PV) : Dat := shD x.q x.L pl x.gn
/-- Pages. -/
def pagsD (pl : Nat) (X : List PV) : Dat where
  P w F := SepL (X.map (pagD pl)) w F
  fr h hf hn := h.fr hf hn
  up h hs := h.up hs
section
variable {w : World} {F G : FP} {pl : Nat} {X : List PV} {x x' : PV} {i : Nat}
theorem pags_nil (w : World) (F : FP) : (pagsD pl []).P w F := trivial
theorem pags_out (h : X[i]? = some x) (hs : SepL [pagsD pl X] w G) : SepL [pagD pl x, pagsD pl (X.eraseIdx i)] w G := by
  have h1 : SepL (X.map (pagD pl)) w G := hs.the
  obtain ⟨F, H, k1, k2, k3, k4, k5⟩ := h1.perm ((pick_perm h).map (pagD pl))
  exact (SepL.two (d := pagD pl x) (e := pagsD pl (X.eraseIdx i)) k1 k2 k3).up (fun k hk => hk.elim (k4 k) (k5 k))
theorem pags_in (hi : i < X.length) (hs : SepL [pagD pl x', pagsD pl (X.eraseIdx i)] w G) : SepL [pagsD pl (X.set i x')] w G := by
  obtain ⟨F, H, k1, k2, k3, k4, k5⟩ := hs
  have hp : (X.set i x').Perm (x' :: X.eraseIdx i) := by
    have h := pick_perm (l := X.set i x') (i := i) (d := x') (by rw [List.getElem?_set_self hi])
    rwa [List.eraseIdx_set_eq] at h
  have h2 : SepL ((x' :: X.eraseIdx i).map (pagD pl)) w G := ⟨F, H, k1, k2.the, k3, k4, k5⟩
  exact SepL.one (h2.perm (hp.map (pagD pl)).symm)
theorem pags_snoc (hs : SepL [pagsD pl X, pagD pl x] w G) : SepL [pagsD pl (X ++ [x])] w G := by
  obtain ⟨F, H, k1, k2, k3, k4, k5⟩ := hs
  refine SepL.one ?_
  show SepL ((X ++ [x]).map (pagD pl)) w G
  rw [List.map_append]
  exact (SepL.append (A := X.map (pagD pl)) (B := [pagD pl x]) k1 k2 k3).up (fun k hk => hk.elim (k4 k) (k5 k))
end

/-- The cells of a ring. -/
abbrev rgCs (v : Value) (mo pl fi nx : Int) : Array Value := #[v, .int .i64 mo, .int .i64 pl, .int .i64 fi, .int .i64 nx]
/-- A ring at p, its pages at qs; of these it has X (one of them may be taken out). -/
def rawD (p : Nat) (mo : Int) (pl : Nat) (fi nx : Int) (qs : List Nat) (X : List PV) : Dat where
  P w F := ∃ A c G, Blk w p 60 (rgCs (.slice A qs.length c) mo pl fi nx) ∧ SepL [rowP (.slice A qs.length c) (qs.map some), pagsD pl X] w G ∧ (∀ k, G k → F k) ∧ F p ∧ ¬ G p
  fr := fun ⟨A, c, G, h1, h2, h3, h4, h5⟩ hf hn => ⟨A, c, G, h1.fr hf (hn p h4), h2.fr hf (fun k hk => hn k (h3 k hk)), h3, h4, h5⟩
  up := fun ⟨A, c, G, h1, h2, h3, h4, h5⟩ hs => ⟨A, c, G, h1, h2, fun k hk => hs k (h3 k hk), hs p h4, h5⟩
/-- A ring at p, whatever its pages are. -/
def ringW (p : Nat) (R : RS) : Dat where
  P w F := ∃ X : List PV, X.map PV.pg = R.P ∧ (rawD p R.mo R.pl R.fi R.nx (X.map (·.q)) X).P w F
  fr h hf hn := by
    obtain ⟨X, h1, h3⟩ := h
    exact ⟨X, h1, (rawD p R.mo R.pl R.fi R.nx (X.map (·.q)) X).fr h3 hf hn⟩
  up h hs := by
    obtain ⟨X, h1, h3⟩ := h
    exact ⟨X, h1, (rawD p R.mo R.pl R.fi R.nx (X.map (·.q)) X).up h3 hs⟩
/-- A ring at p. -/
def ringD (p : Nat) (R : RS) : Dat where
  P w F := RgOk R ∧ (ringW p R).P w F
  fr h hf hn := ⟨h.1, (ringW p R).fr h.2 hf hn⟩
  up h hs := ⟨h.1, (ringW p R).up h.2 hs⟩

section
variable {r e w w' : World} {F G S0 : FP} {ps : List Nat} {p pl m : Nat} {mo fi nx : Int} {qs : List Nat} {X : List PV} {D : List Dat} {x x' : PV} {i : Nat} {R : RS}
/-- A page is taken out. -/
theorem raw_out (h : X[i]? = some x) (hs : SepL [rawD p mo pl fi nx qs X] w G) : SepL [pagD pl x, rawD p mo pl fi nx qs (X.eraseIdx i)] w G := by
  obtain ⟨A, c, H, h1, h2, h3, h4, h5⟩ := hs.the
  obtain ⟨U, V, k1, k2, k3, k4, k5⟩ := h2
  obtain ⟨U', V', j1, j2, j3, j4, j5⟩ := pags_out h k2
  refine (SepL.two (d := pagD pl x) (e := rawD p mo pl fi nx qs (X.eraseIdx i)) (F := U') (G := fun k => k = p ∨ U k ∨ V' k) j1 ⟨A, c, fun k => U k ∨ V' k, h1, ?_, fun k hk => .inr hk, .inl rfl, ?_⟩ (fun k hk hk' => ?_)).up (fun k hk => ?_)
  · exact (SepL.one k1).append j2 (fun k hu hv => k3 k hu (j5 k hv))
  · rintro (hu | hv)
    · exact h5 (k4 p hu)
    · exact h5 (k5 p (j5 p hv))
  · rcases hk' with rfl | hk' | hk'
    · exact h5 (k5 _ (j4 _ hk))
    · exact k3 k hk' (j4 k hk)
    · exact j3 k hk hk'
  · rcases hk with hk | rfl | hk | hk
    · exact h3 k (k5 k (j4 k hk))
    · exact h4
    · exact h3 k (k4 k hk)
    · exact h3 k (k5 k (j5 k hk))
/-- A page comes back. -/
theorem raw_in (hi : i < X.length) (hs : SepL [pagD pl x', rawD p mo pl fi nx qs (X.eraseIdx i)] w G) : SepL [rawD p mo pl fi nx qs (X.set i x')] w G := by
  obtain ⟨U, V, k1, k2, k3, k4, k5⟩ := hs
  obtain ⟨A, c, H, h1, h2, h3, h4, h5⟩ := k2.the
  obtain ⟨U', V', j1, j2, j3, j4, j5⟩ := h2
  refine SepL.one ⟨A, c, fun k => U' k ∨ (U k ∨ V' k), h1, ?_, fun k hk => ?_, k5 _ h4, ?_⟩
  · refine (SepL.one j1).append (pags_in hi ((SepL.two (d := pagD pl x') (e := pagsD pl (X.eraseIdx i)) k1 j2.the (fun k hk hv => k3 k hk (h3 k (j5 k hv)))))) (fun k hu hk => ?_)
    rcases hk with hk | hk
    · exact k3 k hk (h3 k (j4 k hu))
    · exact j3 k hu hk
  · rcases hk with hk | hk | hk
    · exact k5 k (h3 k (j4 k hk))
    · exact k4 k hk
    · exact k5 k (h3 k (j5 k hk))
  · rintro (hu | hk | hv)
    · exact h5 (j4 _ hu)
    · exact k3 p hk h4
    · exact h5 (j5 _ hv)
theorem raw_blk (h : (rawD p mo pl fi nx qs X).P w F) : ∃ A c, Blk w p 60 (rgCs (.slice A qs.length c) mo pl fi nx) := by
  obtain ⟨A, c, G, h1, _⟩ := h
  exact ⟨A, c, h1⟩
/-- The ring's own cells come to the walk's blocks. -/
theorem Dt.open_ring {H : List Bk} (hD : Dt r e S0 0 ps (rawD p mo pl fi nx qs X :: D) w) (hH : Hp r H w) (hp : H.map (·.p) = ps) : ∃ A c, Dt r e S0 0 (p :: ps) (rowP (.slice A qs.length c) (qs.map some) :: pagsD pl X :: D) w ∧ Hp r (⟨p, 60, rgCs (.slice A qs.length c) mo pl fi nx⟩ :: H) w := by
  obtain ⟨G, h1, h2⟩ := hD.ex
  obtain ⟨U, V, k1, k2, k3, k4, k5⟩ := h1
  obtain ⟨A, c, W, j1, j2, j3, j4, j5⟩ := k1
  have hpG := h2 p (k4 p j4)
  refine ⟨A, c, ⟨hD.fr, hD.tab, hD.s0, hD.rt, hD.es, fun i q hi hlt => ?_, fun q hq => ?_, fun k => W k ∨ V k, ?_, fun k hk => ?_⟩, ?_⟩
  · cases i with
    | zero =>
      simp only [List.getElem?_cons_zero, Option.some.injEq] at hi
      subst hi
      exact hpG.1
    | succ i => exact hD.wr i q (by simpa using hi) (by simp only [List.length_cons] at hlt; omega)
  · rcases List.mem_cons.1 hq with rfl | hq
    · exact hpG.2.1
    · exact hD.lt q hq
  · exact SepL.append (A := [rowP _ _, pagsD pl X]) (B := D) j2 k2 (fun k hw hv => k3 k (j3 k hw) hv)
  · have hk' : G k := hk.elim (fun h => k4 k (j3 k h)) (k5 k)
    refine ⟨(h2 k hk').1, (h2 k hk').2.1, fun hm => ?_⟩
    rcases List.mem_cons.1 hm with rfl | hm
    · exact hk.elim j5 (fun hv => k3 _ j4 hv)
    · exact (h2 k hk').2.2 hm
  · have hlow : r.heap.size ≤ p := hD.rt p hpG.1
    refine ⟨hH.new, fun i j b d hb hd hij => ?_, fun b hb => ?_⟩
    · have key : ∀ (j : Nat) (d : Bk), H[j]? = some d → d.p ≠ p := fun j d hd e => hpG.2.2 (hp ▸ List.mem_map.2 ⟨d, List.mem_of_getElem? hd, e⟩)
      match i, j, hb, hd, hij with
      | 0, 0, _, _, h => exact absurd rfl h
      | 0, j + 1, hb, hd, _ =>
        simp only [List.getElem?_cons_zero, Option.some.injEq] at hb
        subst hb
        exact (key j d (by simpa using hd)).symm
      | i + 1, 0, hb, hd, _ =>
        simp only [List.getElem?_cons_zero, Option.some.injEq] at hd
        subst hd
        exact key i b (by simpa using hb)
      | i + 1, j + 1, hb, hd, h => exact hH.nd i j b d (by simpa using hb) (by simpa using hd) (fun e => h (by rw [e]))
    · rcases List.mem_cons.1 hb with rfl | hb
      · exact ⟨hlow, j1⟩
      · exact hH.bl b hb
/-- The ring is shut. -/
theorem Dt.shut_ring {m : Nat} {A : Option Addr} {c : Nat} (hD : Dt r e S0 m (p :: ps) (rowP (.slice A qs.length c) (qs.map some) :: pagsD pl X :: D) w) (hB : Blk w p 60 (rgCs (.slice A qs.length c) mo pl fi nx)) (hn : p ∉ ps) (hm : m ≤ ps.length := by simp) : Dt r e S0 m ps (rawD p mo pl fi nx qs X :: D) w := by
  obtain ⟨G, h1, h2⟩ := hD.ex
  obtain ⟨U, V, k1, k2, k3, k4, k5⟩ := SepL.split (A := [rowP (.slice A qs.length c) (qs.map some), pagsD pl X]) (B := D) h1
  refine ⟨hD.fr, hD.tab, hD.s0, hD.rt, hD.es, fun i q hi hlt => hD.wr (i + 1) q (by simpa using hi) (by simp only [List.length_cons]; omega), fun q hq => hD.lt q (List.mem_cons_of_mem _ hq), fun k => k = p ∨ G k, ?_, fun k hk => ?_⟩
  · refine (SepL.append (A := [rawD p mo pl fi nx qs X]) (B := D) (F := fun k => k = p ∨ U k) (SepL.one ⟨A, c, U, hB, k1, fun k hk => .inr hk, .inl rfl, fun hu => (h2 p (k4 p hu)).2.2 (by simp)⟩) k2 (fun k hk hv => ?_)).up (fun k hk => ?_)
    · rcases hk with rfl | hk
      · exact (h2 _ (k5 _ hv)).2.2 (by simp)
      · exact k3 k hk hv
    · rcases hk with (rfl | hk) | hk
      · exact .inl rfl
      · exact .inr (k4 k hk)
      · exact .inr (k5 k hk)
  · rcases hk with rfl | hk
    · exact ⟨hD.wr 0 _ rfl (by simp only [List.length_cons]; omega), hD.lt _ (by simp), hn⟩
    · exact ⟨(h2 k hk).1, (h2 k hk).2.1, fun hm => (h2 k hk).2.2 (List.mem_cons_of_mem _ hm)⟩
theorem ring_shut (h1 : X.map PV.pg = R.P) (hs : SepL [rawD p R.mo R.pl R.fi R.nx (X.map (·.q)) X] w G) : SepL [ringW p R] w G := SepL.one ⟨X, h1, hs.the⟩
theorem ring_ok (h2 : RgOk R) (hs : SepL [ringW p R] w G) : SepL [ringD p R] w G := SepL.one ⟨h2, hs.the⟩
theorem ring_w (hs : SepL [ringD p R] w G) : SepL [ringW p R] w G := SepL.one hs.the.2
theorem Dt.ring_ok {m : Nat} (h : Dt r e S0 m ps (ringD p R :: D) w) : RgOk R := by
  obtain ⟨F, hF⟩ := h.get (i := 0) rfl
  exact hF.1
theorem Dt.ring_raw {m : Nat} (h : Dt r e S0 m ps (ringW p R :: D) w) : ∃ X : List PV, X.map PV.pg = R.P ∧ Dt r e S0 m ps (rawD p R.mo R.pl R.fi R.nx (X.map (·.q)) X :: D) w := by
  obtain ⟨G, ⟨U, V, ⟨X, k0, k1⟩, k2, k3, k4, k5⟩, h2⟩ := h.ex
  exact ⟨X, k0, h.fr, h.tab, h.s0, h.rt, h.es, h.wr, h.lt, G, ⟨U, V, k1, k2, k3, k4, k5⟩, h2⟩
theorem Dt.rdP {m : Nat} {A : Option Addr} {n c : Nat} {zs : List (Option Nat)} (h : Dt r e S0 m ps D w) {i : Nat} (hi : D[i]? = some (rowP (.slice A n c) zs)) : ∃ b, RdG rPt w b A n zs ∧ n = zs.length ∧ n ≤ c := by
  obtain ⟨F, hF⟩ := h.get hi
  obtain ⟨b, h1, h2, h3, _⟩ := (show OwnO rPt w F (.slice A n c) zs from hF).rdg
  exact ⟨b, h1, h2, h3⟩
theorem Dt.rdPb {m : Nat} {b oo n c : Nat} {zs : List (Option Nat)} (h : Dt r e S0 m ps D w) {i : Nat} (hi : D[i]? = some (rowP (.slice (some ⟨b, oo, none⟩) n c) zs)) : RdG rPt w b (some ⟨b, oo, none⟩) n zs := by
  obtain ⟨b', h1, _, _⟩ := h.rdP hi
  refine ⟨h1.1, fun hn => ?_⟩
  obtain ⟨o', ho⟩ := h1.base hn
  simp only [Option.some.injEq, Addr.mk.injEq, and_true] at ho
  obtain ⟨rfl, rfl⟩ := ho
  exact h1.2 hn
theorem Dt.pags {m i : Nat} (h : Dt r e S0 m ps D w) (hi : D[i]? = some (pagsD pl X)) {j : Nat} (hx : X[j]? = some x) : ShOk x.L pl x.gn := by
  obtain ⟨F, hF⟩ := h.get hi
  obtain ⟨U, _, h1, _⟩ := pags_out hx (SepL.one hF)
  exact sh_ok h1
theorem raw_last {Y : List PV} {y x' : PV} (hq : x'.q = y.q) (hs : SepL [pagD pl x', rawD p mo pl fi nx ((Y ++ [y]).map (·.q)) Y] w G) : SepL [rawD p mo pl fi nx ((Y ++ [x']).map (·.q)) (Y ++ [x'])] w G := by
  have e : (Y ++ [y]).eraseIdx Y.length = Y := by rw [List.eraseIdx_append_of_length_le (Nat.le_refl _)]; simp
  have h := raw_in (X := Y ++ [y]) (i := Y.length) (x' := x') (pl := pl) (p := p) (mo := mo) (fi := fi) (nx := nx) (qs := (Y ++ [y]).map (·.q)) (by simp) (by rw [e]; exact hs)
  have e2 : (Y ++ [y]).set Y.length x' = Y ++ [x'] := by simp
  have e3 : (Y ++ [y]).map (·.q) = (Y ++ [x']).map (·.q) := by simp [hq]
  rwa [e2, e3] at h
theorem pags_outl {Y : List PV} {y : PV} (hs : SepL [pagsD pl (Y ++ [y])] w G) : SepL [pagD pl y, pagsD pl Y] w G := by
  have h := pags_out (i := Y.length) (x := y) (by simp) hs
  have e : (Y ++ [y]).eraseIdx Y.length = Y := by rw [List.eraseIdx_append_of_length_le (Nat.le_refl _)]; simp
  rwa [e] at h
theorem pags_inl {Y : List PV} {y : PV} (hs : SepL [pagD pl y, pagsD pl Y] w G) : SepL [pagsD pl (Y ++ [y])] w G := pags_snoc (hs.perm (List.Perm.swap _ _ _))
theorem Hp.notin {b : Bk} {H : List Bk} (h : Hp r (b :: H) w) : b.p ∉ H.map (·.p) := by
  intro hm
  obtain ⟨c, hc, e⟩ := List.mem_map.1 hm
  obtain ⟨j, hj⟩ := List.getElem?_of_mem hc
  exact h.nd 0 (j + 1) b c rfl (by simpa using hj) (by omega) e.symm
theorem SlF.lt {v : Value} {l : List Ce} (h : SlF w G v l) : SlF w (fun k => G k ∧ k < w.heap.size) v l := by
  obtain ⟨A, c, b, h1, h2, h3, h4⟩ := h
  refine ⟨A, c, b, h1, h2, h3, fun h0 => ⟨h4 h0, ?_⟩⟩
  obtain ⟨o, _, hb, _⟩ := h3.2 h0
  exact hb
theorem ptr_at {j : Nat} (hx : X[j]? = some x) : ((X.map (·.q)).map some)[j]? = some (some x.q) := by
  rw [List.getElem?_map, List.getElem?_map, hx]
  rfl
theorem sep_nilP (w : World) (G : FP) (_ : SepL [] w G) : SepL [rowP (.slice none 0 0) [], pagsD pl []] w G :=
  ⟨fun _ => False, fun _ => False, OwnO.nil w _, SepL.one (d := pagsD pl []) (pags_nil w _), fun _ h _ => h, fun _ h => h.elim, fun _ h => h.elim⟩
end

/-! ### Ends without results -/
section
variable {P : Program} {a : Act} {w : World} {fn : Func} {R : Ending → World → Prop} {N : Nat} {F : List (Nat × Value)}
theorem end_unit (hf : fn.results = #[]) (he : Env N F a) (hR : R (.returned (.tuple #[])) w) : bodyPost P fn R .normal a w := ⟨he.df, .tuple #[], by simp [results, hf], hR⟩
theorem ret_unit (hf : fn.results = #[]) (he : Env N F a) (hR : R (.returned (.tuple #[])) w) : bodyPost P fn R .ret a w := ⟨he.df, .tuple #[], by simp [results, hf], hR⟩
end

/-! ### Rows of lines: longer ones -/
section
variable {ρ : Operand → Value} {o : Oper} {x y : Operand} {w : World} {F : FP} {A : Option Addr} {n c m : Nat} {xs : List LV} {L : List Ln}
/-- An empty row of lines, with room. -/
theorem rg_make0 (h : o.op = .makeSlice 30 x y) (hx : ρ x = .int .i64 0) (hy : ρ y = .int .i64 (m : Nat)) (hc : m ≤ 10000000) :
    ∃ v' w', (execOp ρ o).run Tryd.prog w = .ok (.value v') w' ∧ ∃ q, v' = .slice (some ⟨q, 0, none⟩) 0 m ∧ Made [rowD (.slice (some ⟨q, 0, none⟩) 0 m) [], elsD [] []] w w' := by
  obtain ⟨i, hi, hz, hsize, hby⟩ := info_parts rL.info
  have hby' : i.bytes * m ≤ 281474976710656 := by rw [hby]; exact Nat.le_trans (Nat.mul_le_mul (show rL.by_ ≤ 32 by decide) hc) (by decide)
  have hrun := run_make (P := Tryd.prog) w rL.sl rL.ty i _ rL.und hi hz .i64 .i64 (0 : Int) (m : Int) (by omega) (by omega) (by rw [← Int.natCast_mul]; generalize i.bytes * m = k at *; omega) (by omega)
  rw [Int.toNat_natCast, hsize] at hrun
  have hO : OwnO rL (w.alloc (.cells (madeCells rL.z.cells (m * rL.sz)) rL.ty)) (fun k => k = w.heap.size) (.slice (some ⟨w.heap.size, 0, none⟩) 0 m) [] :=
    .inr ⟨w.heap.size, 0, m, _, rfl, rfl, Blk.new w _ _, Nat.zero_le _, by unfold maxLen; omega, by rw [size_madeCells, Nat.zero_add], by simp [flatG]⟩
  refine ⟨.slice (some ⟨w.heap.size, 0, none⟩) 0 m, w.alloc (.cells (madeCells rL.z.cells (m * rL.sz)) rL.ty), ?_, w.heap.size, rfl, New.alloc _, fun k => k = w.heap.size, ?_, fun k hk => .inr (by subst hk; simp)⟩
  · unfold execOp
    simp only [h, hx, hy, Sem.run_bind]
    rw [show (Instr.makeSlice 30 (.int .i64 0) (.int .i64 (m : Nat))).run Tryd.prog w = _ from hrun]
    rfl
  · exact ⟨_, fun _ => False, hO, SepL.one (d := elsD [] []) (els_nil _ _), fun _ _ h => h, fun _ h => h, fun _ h => h.elim⟩
/-- append of one line onto a row, however long. -/
theorem app_l {B : Option Addr} {b cx : Nat} {u : LV} {l : Ln} (hsep : SepL [rowD (.slice A n c) xs, elsD xs L, cellsD u.v l.1] w F) (hF : ∀ k, F k → 2 ≤ k ∧ k < w.heap.size) (hs : u.s = l.2) (hr : RdG rL w b B 1 [u]) (hlen : L.length ≤ 10000000)
    (h : o.op = .call { callee := .builtin .append, args := #[x, y], argTypes := #[30, 30] }) (hx : ρ x = .slice A n c) (hy : ρ y = .slice B 1 cx) :
    ∃ v' w', (execOp ρ o).run Tryd.prog w = .ok (.value v') w' ∧ ∃ A' c', v' = .slice A' (L ++ [l]).length c' ∧ Turned [rowD (.slice A' (L ++ [l]).length c') (xs ++ [u]), elsD (xs ++ [u]) (L ++ [l])] F w w' := by
  obtain ⟨X, Y, h1, h2, h3, h4, h5⟩ := hsep
  have h1' : OwnO rL w X (.slice A n c) xs := h1
  have hels : (elsD (xs ++ [u]) (L ++ [l])).P w Y := els_snoc h2 hs
  have hl : (xs ++ [u]).length = (L ++ [l]).length := hels.1
  obtain ⟨v', w', hrun, ⟨A', c', e1, _⟩, hf, F', hO, hF'⟩ := rg_append (R := rL) (ρ := ρ) (o := o) (x := x) (y := y) h1' hr (by decide) (by simp at hl; omega) h hx hy
  rw [hl] at e1
  subst e1
  exact ⟨_, w', hrun, A', c', rfl, Turned.frame (A := [rowD _ _]) ⟨hf, F', SepL.one hO, hF'⟩ (SepL.one hels) h3 h4 h5 (fun k hk => (hF k hk).2)⟩
theorem lines_nil (w : World) (G : FP) (h : SepL [] w G) : SepL [linesD (.slice none 0 0) []] w G := lines_shut (sep_nil w G h)
end

/-! ### Results in cells -/
section
variable {DF : List Deferred} {a : Act} {w : World} {fn : Func} {N : Nat} {F : List (Nat × Value)}
theorem loadVar_one {ty t : TypeId} {g : Nat} {v : Value} (hn : (isAgg ty).run Tryd.prog w = .ok false w) (hB : Blk w g t #[v]) : (loadVar ty ⟨g, 0, none⟩).run Tryd.prog w = .ok v w := by
  have hc : w.cell? ⟨g, 0, none⟩ = some v := hB.cell 0
  simp only [loadVar, Sem.run_bind, hn, Result.andThen_ok]
  rw [if_neg (by decide), run_load, hc]
theorem results_le {w' : World} {p q : Tmp} {g h : Nat} {t s : TypeId} {v u : Value} (hf : fn.results = #[.cell p 30, .cell q 26]) (he : EnvD DF N F a) (hp : lk F p = some (.pointer (some ⟨g, 0, none⟩))) (hq : lk F q = some (.pointer (some ⟨h, 0, none⟩)))
    (hg : Blk w' g t #[v]) (hh : Blk w' h s #[u]) : (results fn a.tmps).run Tryd.prog w' = .ok (.tuple #[v, u]) w' := by
  have e1 : a.tmps.getD p undef = .pointer (some ⟨g, 0, none⟩) := he.ev _ _ hp
  have e2 : a.tmps.getD q undef = .pointer (some ⟨h, 0, none⟩) := he.ev _ _ hq
  have l1 := loadVar_one (ty := 30) (by simp [isAgg, run_underlying Tryd.underlying30]) hg
  have l2 := loadVar_one (ty := 26) (by simp [isAgg, run_underlying Tryd.underlying26]) hh
  rw [Array.getD_eq_getD_getElem?] at e1 e2
  simp only [results, hf]
  simp [Sem.run_bind, Result.andThen, e1, e2, asAddr, l1, l2]
end

/-! ### Rows of pointers -/
section
variable {ρ : Operand → Value} {o : Oper} {x y : Operand} {w : World} {F G : FP} {A B A3 : Option Addr} {n c k m : Nat} {zs : List (Option Nat)}
theorem app_p {b cx M : Nat} {u : Option Nat} (hrow : (rowP (.slice A n c) zs).P w F) (hr : RdG rPt w b B 1 [u]) (hM : (zs ++ [u]).length = M) (hlen : M ≤ 10000000)
    (h : o.op = .call { callee := .builtin .append, args := #[x, y], argTypes := #[58, 58] }) (hx : ρ x = .slice A n c) (hy : ρ y = .slice B 1 cx) :
    ∃ v' w', (execOp ρ o).run Tryd.prog w = .ok (.value v') w' ∧ ∃ A' c', v' = .slice A' M c' ∧ Turned [rowP (.slice A' M c') (zs ++ [u])] F w w' := by
  have h1' : OwnO rPt w F (.slice A n c) zs := hrow
  obtain ⟨v', w', hrun, ⟨A', c', e1, _⟩, hf, F', hO, hF'⟩ := rg_append (R := rPt) (ρ := ρ) (o := o) (x := x) (y := y) h1' hr (by decide) (by simp at hM; omega) h hx hy
  rw [hM] at e1
  subst e1
  exact ⟨_, w', hrun, A', c', rfl, hf, F', SepL.one (d := rowP _ _) hO, hF'⟩
theorem clear_p {cx : Nat} (hrow : (rowP (.slice A n c) zs).P w F) (hB : ∀ g off, 0 < m → A = some ⟨g, off, none⟩ → B = some ⟨g, off + k * 1, none⟩) (hkm : k + m ≤ n)
    (h : o.op = .call { callee := .builtin .clear, args := #[x], argTypes := #[58] }) (hx : ρ x = .slice B m cx) :
    ∃ v' w', (execOp ρ o).run Tryd.prog w = .ok (.value v') w' ∧ v' = .tuple #[] ∧ Turned [rowP (.slice A n c) (zs.take k ++ List.replicate m none ++ zs.drop (k + m))] F w w' := by
  have hrow' : OwnO rPt w F (.slice A n c) zs := hrow
  obtain ⟨v', w', hrun, e1, hf, hO, _⟩ := rg_clear (R := rPt) (ρ := ρ) (o := o) (x := x) (z0 := none) (k := k) zPt_ls hrow' hB hkm h hx
  exact ⟨v', w', hrun, e1, hf, F, SepL.one (d := rowP _ _) hO, fun k hk => .inl hk⟩
theorem slp_addr {A2 : Option Addr} {l d : Nat} (e : sliced A l n c 1 = .slice A2 m d) (h : c ≠ l) : ∀ g off, A = some ⟨g, off, none⟩ → A2 = some ⟨g, off + l * 1, none⟩ := by
  intro g off hA
  subst hA
  simp only [sliced, if_neg h, Option.map_some, addr_add, Value.slice.injEq] at e
  exact e.1.symm
theorem rowp_cutl (e : sliced A k n c 1 = .slice A3 m (c - k)) (hk : k ≤ n) (h : SepL [rowP (.slice A n c) zs] w G) : SepL [rowP (.slice A3 m (c - k)) (zs.drop k)] w G := by
  obtain ⟨A', e', h'⟩ := OwnO.cutl (R := rPt) (show OwnO rPt w G _ _ from h.the) hk
  have e2 : sliced A k n c 1 = .slice A' (n - k) (c - k) := e'
  rw [← e, e2]
  exact SepL.one (d := rowP _ _) h'
theorem rowp_cuth (e : sliced A 0 k c 1 = .slice A3 m c) (hk : k ≤ n) (h : SepL [rowP (.slice A n c) zs] w G) : SepL [rowP (.slice A3 m c) (zs.take k)] w G := by
  obtain ⟨A', e', h'⟩ := OwnO.cuth (R := rPt) (show OwnO rPt w G _ _ from h.the) hk
  have e2 : sliced A 0 k c 1 = .slice A' k c := e'
  rw [← e, e2]
  exact SepL.one (d := rowP _ _) h'
theorem slp_cut (_ : k ≤ n) : ∃ A2, sliced A k n c 1 = .slice A2 (n - k) (c - k) := ⟨_, rfl⟩
theorem slp_cuth : ∃ A2, sliced A 0 k c 1 = .slice A2 k c := ⟨_, rfl⟩
end
end Go.Proofs.YtlpjhaghphmbeaaDoor
