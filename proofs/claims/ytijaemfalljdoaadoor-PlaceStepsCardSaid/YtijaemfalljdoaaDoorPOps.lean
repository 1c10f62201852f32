/-
  What single operations yield: integers, strings, places.
-/
import Derived.Test.YtijaemfalljdoaaDoorCore
import Derived.Test.YtijaemfalljdoaaDoorPlc
import Derived.Laws.IdiomStrings
namespace Go.Proofs.YtijaemfalljdoaaDoor
open Go.RowKit

section
variable {ρ : Operand → Value} {o : Oper} {x y : Operand}
theorem rn_lsI {i j : Int} {b : Bool} (h : o.op = .binOp .lss 3 x y 3) (hx : ρ x = .int .i64 i) (hy : ρ y = .int .i64 j) (hb : decide (i < j) = b) (w : World) : (execOp ρ o).run Tryd.prog w = .ok (.value (.bool b)) w := by
  subst hb
  obtain ⟨dst, op, ty, pos, after, guard⟩ := o
  simp only at h
  subst h
  go_simp
theorem rn_leI {i j : Int} {b : Bool} (h : o.op = .binOp .leq 3 x y 3) (hx : ρ x = .int .i64 i) (hy : ρ y = .int .i64 j) (hb : decide (i ≤ j) = b) (w : World) : (execOp ρ o).run Tryd.prog w = .ok (.value (.bool b)) w := by
  subst hb
  obtain ⟨dst, op, ty, pos, after, guard⟩ := o
  simp only at h
  subst h
  go_simp
theorem rn_gtI {i j : Int} {b : Bool} (h : o.op = .binOp .gtr 3 x y 3) (hx : ρ x = .int .i64 i) (hy : ρ y = .int .i64 j) (hb : decide (j < i) = b) (w : World) : (execOp ρ o).run Tryd.prog w = .ok (.value (.bool b)) w := by
  subst hb
  obtain ⟨dst, op, ty, pos, after, guard⟩ := o
  simp only at h
  subst h
  go_simp
theorem rn_geI {i j : Int} {b : Bool} (h : o.op = .binOp .geq 3 x y 3) (hx : ρ x = .int .i64 i) (hy : ρ y = .int .i64 j) (hb : decide (j ≤ i) = b) (w : World) : (execOp ρ o).run Tryd.prog w = .ok (.value (.bool b)) w := by
  subst hb
  obtain ⟨dst, op, ty, pos, after, guard⟩ := o
  simp only at h
  subst h
  go_simp
theorem rn_eqI {i j : Int} {b : Bool} (h : o.op = .binOp .eql 3 x y 3) (hx : ρ x = .int .i64 i) (hy : ρ y = .int .i64 j) (hb : (i == j) = b) (w : World) : (execOp ρ o).run Tryd.prog w = .ok (.value (.bool b)) w := by
  subst hb
  obtain ⟨dst, op, ty, pos, after, guard⟩ := o
  simp only at h
  subst h
  go_simp
theorem rn_neI {i j : Int} {b : Bool} (h : o.op = .binOp .neq 3 x y 3) (hx : ρ x = .int .i64 i) (hy : ρ y = .int .i64 j) (hb : (i != j) = b) (w : World) : (execOp ρ o).run Tryd.prog w = .ok (.value (.bool b)) w := by
  subst hb
  obtain ⟨dst, op, ty, pos, after, guard⟩ := o
  simp only at h
  subst h
  go_simp
end
section
variable {ρ : Operand → Value} {o : Oper} {x y : Operand}
theorem rn_eqE {i j : Int} {b : Bool} (h : o.op = .binOp .eql 34 x y 34) (hx : ρ x = .int .i64 i) (hy : ρ y = .int .i64 j) (hb : (i == j) = b) (w : World) : (execOp ρ o).run Tryd.prog w = .ok (.value (.bool b)) w := by
  subst hb
  obtain ⟨dst, op, ty, pos, after, guard⟩ := o
  simp only at h
  subst h
  go_simp
theorem rn_neE {i j : Int} {b : Bool} (h : o.op = .binOp .neq 34 x y 34) (hx : ρ x = .int .i64 i) (hy : ρ y = .int .i64 j) (hb : (i != j) = b) (w : World) : (execOp ρ o).run Tryd.prog w = .ok (.value (.bool b)) w := by
  subst hb
  obtain ⟨dst, op, ty, pos, after, guard⟩ := o
  simp only at h
  subst h
  go_simp
end
section
variable {ρ : Operand → Value} {o : Oper} {x y : Operand}
theorem rn_lsU {i j : Int} {b : Bool} (h : o.op = .binOp .lss 5 x y 5) (hx : ρ x = .int .u8 i) (hy : ρ y = .int .u8 j) (hb : decide (i < j) = b) (w : World) : (execOp ρ o).run Tryd.prog w = .ok (.value (.bool b)) w := by
  subst hb
  obtain ⟨dst, op, ty, pos, after, guard⟩ := o
  simp only at h
  subst h
  go_simp
theorem rn_gtU {i j : Int} {b : Bool} (h : o.op = .binOp .gtr 5 x y 5) (hx : ρ x = .int .u8 i) (hy : ρ y = .int .u8 j) (hb : decide (j < i) = b) (w : World) : (execOp ρ o).run Tryd.prog w = .ok (.value (.bool b)) w := by
  subst hb
  obtain ⟨dst, op, ty, pos, after, guard⟩ := o
  simp only at h
  subst h
  go_simp
theorem rn_eqU {i j : Int} {b : Bool} (h : o.op = .binOp .eql 5 x y 5) (hx : ρ x = .int .u8 i) (hy : ρ y = .int .u8 j) (hb : (i == j) = b) (w : World) : (execOp ρ o).run Tryd.prog w = .ok (.value (.bool b)) w := by
  subst hb
  obtain ⟨dst, op, ty, pos, after, guard⟩ := o
  simp only at h
  subst h
  go_simp
end
section
variable {ρ : Operand → Value} {o : Oper} {x y : Operand}
theorem rn_addI {i j r : Int} (h : o.op = .binOp .add 3 x y 3) (hx : ρ x = .int .i64 i) (hy : ρ y = .int .i64 j) (hr : IntKind.i64.wrap (i + j) = r) (w : World) : (execOp ρ o).run Tryd.prog w = .ok (.value (.int .i64 r)) w := by
  subst hr
  obtain ⟨dst, op, ty, pos, after, guard⟩ := o
  simp only at h
  subst h
  go_simp
theorem rn_subI {i j r : Int} (h : o.op = .binOp .sub 3 x y 3) (hx : ρ x = .int .i64 i) (hy : ρ y = .int .i64 j) (hr : IntKind.i64.wrap (i - j) = r) (w : World) : (execOp ρ o).run Tryd.prog w = .ok (.value (.int .i64 r)) w := by
  subst hr
  obtain ⟨dst, op, ty, pos, after, guard⟩ := o
  simp only at h
  subst h
  go_simp
theorem rn_mulI {i j r : Int} (h : o.op = .binOp .mul 3 x y 3) (hx : ρ x = .int .i64 i) (hy : ρ y = .int .i64 j) (hr : IntKind.i64.wrap (i * j) = r) (w : World) : (execOp ρ o).run Tryd.prog w = .ok (.value (.int .i64 r)) w := by
  subst hr
  obtain ⟨dst, op, ty, pos, after, guard⟩ := o
  simp only at h
  subst h
  go_simp
end
section
variable {ρ : Operand → Value} {o : Oper} {x y : Operand}
theorem rn_subU {i j r : Int} (h : o.op = .binOp .sub 5 x y 5) (hx : ρ x = .int .u8 i) (hy : ρ y = .int .u8 j) (hr : IntKind.u8.wrap (i - j) = r) (w : World) : (execOp ρ o).run Tryd.prog w = .ok (.value (.int .u8 r)) w := by
  subst hr
  obtain ⟨dst, op, ty, pos, after, guard⟩ := o
  simp only at h
  subst h
  go_simp
end
section
variable {ρ : Operand → Value} {o : Oper} {x y : Operand}
set_option linter.unusedSimpArgs false in
theorem rn_remI {i j r : Int} (h : o.op = .binOp .rem 3 x y 3) (hx : ρ x = .int .i64 i) (hy : ρ y = .int .i64 j) (hj : 0 < j) (hr : i.tmod j = r) (w : World) : (execOp ρ o).run Tryd.prog w = .ok (.value (.int .i64 r)) w := by
  subst hr
  have e : (Op.intDiv .rem .i64 i j).run Tryd.prog w = .ok (.int .i64 (i.tmod j)) w := by
    unfold Op.intDiv
    rw [if_neg (by omega)]
    rfl
  unfold execOp
  simp only [h, hx, hy, binOp, Sem.run_bind, eqGuard, Bool.not_false, if_true, ne_eq, not_true_eq_false, if_false, e, Result.andThen_ok, Sem.run_pure]
set_option linter.unusedSimpArgs false in
theorem rn_quoI {i j r : Int} (h : o.op = .binOp .quo 3 x y 3) (hx : ρ x = .int .i64 i) (hy : ρ y = .int .i64 j) (hj : 0 < j) (hr : IntKind.i64.wrap (i.tdiv j) = r) (w : World) : (execOp ρ o).run Tryd.prog w = .ok (.value (.int .i64 r)) w := by
  subst hr
  have e : (Op.intDiv .quo .i64 i j).run Tryd.prog w = .ok (.int .i64 (IntKind.i64.wrap (i.tdiv j))) w := by
    unfold Op.intDiv
    rw [if_neg (by omega)]
    rfl
  unfold execOp
  simp only [h, hx, hy, binOp, Sem.run_bind, eqGuard, Bool.not_false, if_true, ne_eq, not_true_eq_false, if_false, e, Result.andThen_ok, Sem.run_pure]
theorem rn_remNI {i j r : Int} (h : o.op = .binOp .rem 3 x y 3) (hx : ρ x = .int .i64 i) (hy : ρ y = .int .i64 j) (h0 : 0 ≤ i) (hj : 0 < j) (hr : i % j = r) (w : World) : (execOp ρ o).run Tryd.prog w = .ok (.value (.int .i64 r)) w :=
  rn_remI h hx hy hj ((Int.tmod_eq_emod_of_nonneg h0).trans hr) w
theorem rn_quoNI {i j r : Int} (h : o.op = .binOp .quo 3 x y 3) (hx : ρ x = .int .i64 i) (hy : ρ y = .int .i64 j) (h0 : 0 ≤ i) (h1 : i ≤ 9223372036854775807) (hj : 0 < j) (hr : i / j = r) (w : World) : (execOp ρ o).run Tryd.prog w = .ok (.value (.int .i64 r)) w := by
  refine rn_quoI h hx hy hj ?_ w
  rw [Int.tdiv_eq_ediv_of_nonneg h0, hr]
  have h2 : i / j ≤ i := Int.ediv_le_self _ h0
  have h3 : 0 ≤ i / j := Int.ediv_nonneg h0 (by omega)
  exact IntWalk.i64_in _ ⟨by omega, by omega⟩
end
section
variable {ρ : Operand → Value} {o : Oper} {x y : Operand}
theorem rn_negI {i r : Int} (h : o.op = .unOp .neg 3 x) (hx : ρ x = .int .i64 i) (hr : IntKind.i64.wrap (-i) = r) (w : World) : (execOp ρ o).run Tryd.prog w = .ok (.value (.int .i64 r)) w := by
  subst hr
  obtain ⟨dst, op, ty, pos, after, guard⟩ := o
  simp only at h
  subst h
  go_simp
end
section
variable {ρ : Operand → Value} {o : Oper} {x y : Operand}
theorem rn_cvUI {i r : Int} (h : o.op = .convert 5 3 x) (hx : ρ x = .int .u8 i) (hr : IntKind.i64.wrap i = r) (w : World) : (execOp ρ o).run Tryd.prog w = .ok (.value (.int .i64 r)) w := by
  subst hr
  obtain ⟨dst, op, ty, pos, after, guard⟩ := o
  simp only at h
  subst h
  go_simp
end
section
variable {ρ : Operand → Value} {o : Oper} {x y : Operand}
theorem rn_cvIU {i r : Int} (h : o.op = .convert 3 5 x) (hx : ρ x = .int .i64 i) (hr : IntKind.u8.wrap i = r) (w : World) : (execOp ρ o).run Tryd.prog w = .ok (.value (.int .u8 r)) w := by
  subst hr
  obtain ⟨dst, op, ty, pos, after, guard⟩ := o
  simp only at h
  subst h
  go_simp
end
section
variable {ρ : Operand → Value} {o : Oper} {x y : Operand}
theorem rn_minI {i j r : Int} (h : o.op = .call { callee := .builtin .min, args := #[x, y], argTypes := #[3, 3] }) (hx : ρ x = .int .i64 i) (hy : ρ y = .int .i64 j) (hr : min i j = r) (w : World) : (execOp ρ o).run Tryd.prog w = .ok (.value (.int .i64 r)) w := by
  subst hr
  obtain ⟨dst, op, ty, pos, after, guard⟩ := o
  simp only at h
  subst h
  go_simp
  split <;> omega
theorem rn_maxI {i j r : Int} (h : o.op = .call { callee := .builtin .max, args := #[x, y], argTypes := #[3, 3] }) (hx : ρ x = .int .i64 i) (hy : ρ y = .int .i64 j) (hr : max i j = r) (w : World) : (execOp ρ o).run Tryd.prog w = .ok (.value (.int .i64 r)) w := by
  subst hr
  obtain ⟨dst, op, ty, pos, after, guard⟩ := o
  simp only at h
  subst h
  go_simp
  split <;> omega
end
/-- The string with these bytes. -/
abbrev bs (l : List UInt8) : ByteArray := ⟨l.toArray⟩
theorem bs_eq (s : ByteArray) : s = bs s.data.toList := by cases s; rfl
theorem bs_size (l : List UInt8) : (bs l).size = l.length := by show l.toArray.size = _; simp
theorem bs_inj {a b : List UInt8} : bs a = bs b ↔ a = b := ⟨fun h => by have := congrArg (fun s : ByteArray => s.data.toList) h; simpa using this, fun h => by rw [h]⟩
theorem bs_add (a b : List UInt8) : bs a ++ bs b = bs (a ++ b) := by
  apply ByteArray.ext
  simp [bs]
section
variable {ρ : Operand → Value} {o : Oper} {x y : Operand}
theorem rn_eqS {a c : List UInt8} {b : Bool} (h : o.op = .binOp .eql 9 x y 9) (hx : ρ x = .string (bs a)) (hy : ρ y = .string (bs c)) (hb : decide (a = c) = b) (w : World) : (execOp ρ o).run Tryd.prog w = .ok (.value (.bool b)) w := by
  have e : (a == c) = b := by rw [← hb, Bool.eq_iff_iff]; simp
  clear hb
  obtain ⟨dst, op, ty, pos, after, guard⟩ := o
  simp only at h
  subst h
  go_simp
theorem rn_neS {a c : List UInt8} {b : Bool} (h : o.op = .binOp .neq 9 x y 9) (hx : ρ x = .string (bs a)) (hy : ρ y = .string (bs c)) (hb : (!decide (a = c)) = b) (w : World) : (execOp ρ o).run Tryd.prog w = .ok (.value (.bool b)) w := by
  have e : (!(a == c)) = b := by rw [← hb, Bool.eq_iff_iff]; simp
  clear hb
  obtain ⟨dst, op, ty, pos, after, guard⟩ := o
  simp only at h
  subst h
  go_simp
theorem rn_addS {a c r : List UInt8} (h : o.op = .binOp .add 9 x y 9) (hx : ρ x = .string (bs a)) (hy : ρ y = .string (bs c)) (hl : a.length + c.length ≤ 4294967296) (hr : a ++ c = r) (w : World) : (execOp ρ o).run Tryd.prog w = .ok (.value (.string (bs r))) w := by
  subst hr
  rw [← bs_add]
  obtain ⟨dst, op, ty, pos, after, guard⟩ := o
  simp only at h
  subst h
  have e1 := bs_size a
  have e2 := bs_size c
  go_simp
  omega
theorem rn_lenS {a : List UInt8} (h : o.op = .call { callee := .builtin .len, args := #[x], argTypes := #[9] }) (hx : ρ x = .string (bs a)) (w : World) : (execOp ρ o).run Tryd.prog w = .ok (.value (.int .i64 a.length)) w := by
  obtain ⟨dst, op, ty, pos, after, guard⟩ := o
  simp only at h
  subst h
  have e1 := bs_size a
  go_simp
theorem rn_ixS {a : List UInt8} {k : Nat} {c : UInt8} (h : o.op = .index 9 x y) (hx : ρ x = .string (bs a)) (hy : ρ y = .int .i64 k) (hc : a[k]? = some c) (w : World) : (execOp ρ o).run Tryd.prog w = .ok (.value (.int .u8 c.toNat)) w := by
  obtain ⟨hk, rfl⟩ := List.getElem?_eq_some_iff.1 hc
  obtain ⟨dst, op, ty, pos, after, guard⟩ := o
  simp only at h
  subst h
  have e1 := bs_size a
  go_simp
  rfl
end
theorem undZ : Tryd.prog.underlying 23 = some (.struct (Tryd.prog.fieldsOf 23)) := by kernel_rfl
theorem infoZ2 : (Tryd.prog.info? 23).map (·.size) = some 2 := by kernel_rfl
section
variable {ρ : Operand → Value} {o : Oper} {x y z u : Operand}
theorem rn_boxZ {i0 : Int} {i1 : Int} (h : o.op = .box 23 x) (hx : ρ x = .agg #[.int .i64 i0, .int .i64 i1]) (w : World) : (execOp ρ o).run Tryd.prog w = .ok (.value (.pointer (some ⟨w.heap.size, 0, none⟩))) (w.alloc (.cells #[.int .i64 i0, .int .i64 i1] 23)) := by
  unfold execOp
  simp only [h, hx]
  kernel_rfl
theorem rn_allocZ (h : o.op = .alloc 23) (w : World) : (execOp ρ o).run Tryd.prog w = .ok (.value (.pointer (some ⟨w.heap.size, 0, none⟩))) (w.alloc (.cells #[.int .i64 0, .int .i64 0] 23)) := by
  unfold execOp
  simp only [h]
  kernel_rfl
theorem rn_faZ0 {g off : Nat} {p : Value} (h : o.op = .fieldAddr 23 x 0) (hx : ρ x = .pointer (some ⟨g, off, none⟩)) (hp : .pointer (some ⟨g, off + 0, none⟩) = p) (w : World) : (execOp ρ o).run Tryd.prog w = .ok (.value p) w := by
  subst hp
  unfold execOp
  simp only [h, hx]
  kernel_rfl
theorem rn_faZ1 {g off : Nat} {p : Value} (h : o.op = .fieldAddr 23 x 1) (hx : ρ x = .pointer (some ⟨g, off, none⟩)) (hp : .pointer (some ⟨g, off + 1, none⟩) = p) (w : World) : (execOp ρ o).run Tryd.prog w = .ok (.value p) w := by
  subst hp
  unfold execOp
  simp only [h, hx]
  kernel_rfl
theorem rn_bZ01 {i0_0 : Int} {i1_0 : Int} (h : o.op = .build 23 #[(0, x), (1, y)]) (hx : ρ x = .int .i64 i0_0) (hy : ρ y = .int .i64 i1_0) (w : World) : (execOp ρ o).run Tryd.prog w = .ok (.value (.agg #[.int .i64 i0_0, .int .i64 i1_0])) w := by
  unfold execOp
  simp only [h, List.map_toArray, List.map_cons, List.map_nil, hx, hy]
  kernel_rfl
theorem rn_bZ0 {i0_0 : Int} (h : o.op = .build 23 #[(0, x)]) (hx : ρ x = .int .i64 i0_0) (w : World) : (execOp ρ o).run Tryd.prog w = .ok (.value (.agg #[.int .i64 i0_0, .int .i64 0])) w := by
  unfold execOp
  simp only [h, List.map_toArray, List.map_cons, List.map_nil, hx]
  kernel_rfl
theorem rn_bZ (h : o.op = .build 23 #[]) (w : World) : (execOp ρ o).run Tryd.prog w = .ok (.value (.agg #[.int .i64 0, .int .i64 0])) w := by
  unfold execOp
  simp only [h, List.map_toArray, List.map_nil]
  kernel_rfl
end
section
variable {α β : Type} (g : α → β)
theorem parts2 (l : List α) {b0 b1 : β} (h : l.map g = [b0, b1]) : ∃ a0 a1, l = [a0, a1] ∧ g a0 = b0 ∧ g a1 = b1 := by
  match l, h with
  | [a0, a1], h => simp at h; exact ⟨a0, a1, rfl, h⟩
end
theorem eqFields_cons (d : Nat) (xs ys : Array Value) (f : Field) (fs : List Field) {n : String} {t o : Nat} (h : (f.name, f.type, f.offset) = (n, t, o)) (hn : n ≠ "_") (a b : Value) (r : Bool) (w : World)
    (ha : (part t xs o).run Tryd.prog w = .ok a w) (hb : (part t ys o).run Tryd.prog w = .ok b w) (he : (Op.equalIn d t a b).run Tryd.prog w = .ok r w) :
    (Op.eqFields d xs ys (f :: fs)).run Tryd.prog w = if r = true then (Op.eqFields d xs ys fs).run Tryd.prog w else .ok false w := by
  simp only [Prod.mk.injEq] at h
  obtain ⟨h1, h2, h3⟩ := h
  simp only [Op.eqFields, h1, h2, h3, ne_eq, hn, not_false_eq_true, if_true, Sem.run_bind, ha, hb, he, Result.andThen_ok]
  cases r <;> simp
theorem part_int {t : Nat} {k : IntKind} (hu : Tryd.prog.underlying t = some (.int k)) (xs : Array Value) (o : Nat) (v : Value) (h : xs[o]? = some v) (w : World) : (part t xs o).run Tryd.prog w = .ok v w := by
  simp [part, isAgg, run_underlying hu, h]
theorem run_eqAgg {t : TypeId} {xs ys : Array Value} {b : Bool} {w : World} (hg : Tryd.prog.eqGuardType Tryd.prog.depth t = false) (he : (Op.equalIn 10000 t (.agg xs) (.agg ys)).run Tryd.prog w = .ok b w) (x y : Operand) (neg : Bool) :
    ((eqGuard (if neg then .neq else .eql) t x y (.agg xs) (.agg ys)).run Tryd.prog w = .ok () w) ∧ ((binOp (if neg then .neq else .eql) t (.agg xs) (.agg ys)).run Tryd.prog w = .ok (.bool (if neg then !b else b)) w) := by
  have he' : (Op.equal t (.agg xs) (.agg ys)).run Tryd.prog w = .ok b w := he
  cases neg
  · refine ⟨?_, ?_⟩
    · simp [eqGuard, hg]
    · simp [binOp, he']
  · refine ⟨?_, ?_⟩
    · simp [eqGuard, hg]
    · simp [binOp, he']
theorem heldZ : Tryd.prog.stoodInHeld 23 = false := by kernel_rfl
theorem fieldsZ : (Tryd.prog.fieldsOf 23).toList.map (fun f => (f.name, f.type, f.offset)) = [("Line", 3, 0), ("Column", 3, 1)] := by kernel_rfl
theorem cellsZ2 : Tryd.prog.cellsOf 23 = 2 := by kernel_rfl
theorem guardZ : Tryd.prog.eqGuardType Tryd.prog.depth 23 = false := by kernel_rfl
theorem eq_Z (n : Nat) (p q : Pl) (w : World) : (Op.equalIn (n + 2) 23 (.agg (Pl.cs p)) (.agg (Pl.cs q))).run Tryd.prog w = .ok (decide (p = q)) w := by
  obtain ⟨f0, f1, hl, h0, h1⟩ := parts2 _ _ fieldsZ
  rw [run_equalIn_agg w (n + 1) 23 _ _ undZ heldZ, hl]
  rw [eqFields_cons _ _ _ f0 _ h0 (by decide) _ _ _ w (part_int Tryd.underlying3 _ 0 _ rfl w) (part_int Tryd.underlying3 _ 0 _ rfl w) (run_equalIn_int (P := Tryd.prog) w n 3 .i64 .i64 _ _ Tryd.underlying3),
    eqFields_cons _ _ _ f1 _ h1 (by decide) _ _ _ w (part_int Tryd.underlying3 _ 1 _ rfl w) (part_int Tryd.underlying3 _ 1 _ rfl w) (run_equalIn_int (P := Tryd.prog) w n 3 .i64 .i64 _ _ Tryd.underlying3)]
  simp only [Op.eqFields, Sem.run_pure]
  obtain ⟨a0, a1⟩ := p
  obtain ⟨b0, b1⟩ := q
  simp only [Pl.mk.injEq, beq_iff_eq]
  split <;> rename_i e0
  · split <;> rename_i e1
    · simp [e0, e1]
    · simp [e1]
  · simp [e0]
set_option linter.unusedSimpArgs false in
theorem rn_eqZ {ρ : Operand → Value} {o : Oper} {x y : Operand} {p q : Pl} {b : Bool} (h : o.op = .binOp .eql 23 x y 23) (hx : ρ x = .agg (Pl.cs p)) (hy : ρ y = .agg (Pl.cs q)) (hb : decide (p = q) = b) (w : World) : (execOp ρ o).run Tryd.prog w = .ok (.value (.bool b)) w := by
  subst hb
  obtain ⟨h1, h2⟩ := run_eqAgg (w := w) guardZ (eq_Z 9998 p q w) x y false
  simp only [if_true, Bool.false_eq_true, if_false] at h1 h2
  unfold execOp
  simp only [h, hx, hy, Sem.run_bind, h1, h2, Result.andThen_ok, Sem.run_pure]
set_option linter.unusedSimpArgs false in
theorem rn_neZ {ρ : Operand → Value} {o : Oper} {x y : Operand} {p q : Pl} {b : Bool} (h : o.op = .binOp .neq 23 x y 23) (hx : ρ x = .agg (Pl.cs p)) (hy : ρ y = .agg (Pl.cs q)) (hb : (!decide (p = q)) = b) (w : World) : (execOp ρ o).run Tryd.prog w = .ok (.value (.bool b)) w := by
  subst hb
  obtain ⟨h1, h2⟩ := run_eqAgg (w := w) guardZ (eq_Z 9998 p q w) x y true
  simp only [if_true, Bool.false_eq_true, if_false] at h1 h2
  unfold execOp
  simp only [h, hx, hy, Sem.run_bind, h1, h2, Result.andThen_ok, Sem.run_pure]
section
variable {ρ : Operand → Value} {o : Oper} {x y : Operand}
theorem rn_lenJ {A : Option Addr} {n c : Nat} (h : o.op = .call { callee := .builtin .len, args := #[x], argTypes := #[63] }) (hv : ρ x = .slice A n c) (w : World) : (execOp ρ o).run Tryd.prog w = .ok (.value (.int .i64 n)) w := by
  obtain ⟨dst, op, ty, pos, after, guard⟩ := o
  simp only at h
  subst h
  go_simp
theorem rn_idxJ {A : Addr} {n c i : Nat} {p : Value} (h : o.op = .indexAddr 63 x y) (hx : ρ x = .slice (some A) n c) (hy : ρ y = .int .i64 i) (hi : i < n) (hp : .pointer (some (A.add (i * 1))) = p) (w : World) : (execOp ρ o).run Tryd.prog w = .ok (.value p) w := by
  subst hp
  obtain ⟨dst, op, ty, pos, after, guard⟩ := o
  simp only at h
  subst h
  go_simp
theorem run_loadJs (w : World) {b o : Nat} {v : Value} (hc : w.cell? ⟨b, o, none⟩ = some v) : (Instr.loadAt 63 (.pointer (some ⟨b, o, none⟩))).run Tryd.prog w = .ok v w := by
  have hn : (isAgg 63).run Tryd.prog w = .ok false w := by simp [isAgg, run_underlying Tryd.underlying63]
  simp only [Instr.loadAt, Instr.sureAddr, loadVar, Sem.run_bind, Sem.run_pure, Result.andThen_ok, hn]
  rw [if_neg (by decide), run_load, hc]
theorem rn_ldJs {g off : Nat} {t : TypeId} {cs : Array Value} {v : Value} {w : World} (h : o.op = .load 63 x) (hx : ρ x = .pointer (some ⟨g, off, none⟩)) (hB : Blk w g t cs) (hv : cs[off]? = some v) :
    (execOp ρ o).run Tryd.prog w = .ok (.value v) w := by
  unfold execOp
  simp only [h, hx, run_loadJs w ((hB.cell off).trans hv), Sem.run_bind, Sem.run_pure, Result.andThen_ok]
theorem infoJs1 : (Tryd.prog.info? 63).map (·.size) = some 1 := by kernel_rfl
end
theorem rn_bsJ2 {ρ : Operand → Value} {o : Oper} {x0 x1 : Operand} {i0 i1 : Int} (h : o.op = .buildSlice 63 2 #[(0, x0), (1, x1)]) (h0 : ρ x0 = .int .i64 i0) (h1 : ρ x1 = .int .i64 i1) (w : World) : (execOp ρ o).run Tryd.prog w = .ok (.value (.slice (some ⟨w.heap.size, 0, none⟩) 2 2)) (w.alloc (.cells #[.int .i64 i0, .int .i64 i1] 3)) := by
  unfold execOp
  simp only [h, List.map_toArray, List.map_cons, List.map_nil, h0, h1]
  kernel_rfl
section
variable {ρ : Operand → Value} {o : Oper} {x y : Operand}
theorem rn_iaY0 {g off : Nat} {p : Value} (h : o.op = .indexAddr 62 x y) (hx : ρ x = .pointer (some ⟨g, off, none⟩)) (hy : ρ y = .int .i64 0) (hp : .pointer (some ⟨g, off + 0, none⟩) = p) (w : World) : (execOp ρ o).run Tryd.prog w = .ok (.value p) w := by
  subst hp
  unfold execOp
  simp only [h, hx, hy]
  kernel_rfl
theorem rn_iaY1 {g off : Nat} {p : Value} (h : o.op = .indexAddr 62 x y) (hx : ρ x = .pointer (some ⟨g, off, none⟩)) (hy : ρ y = .int .i64 1) (hp : .pointer (some ⟨g, off + 1, none⟩) = p) (w : World) : (execOp ρ o).run Tryd.prog w = .ok (.value p) w := by
  subst hp
  unfold execOp
  simp only [h, hx, hy]
  kernel_rfl
end
theorem infoY2 : (Tryd.prog.info? 62).map (·.size) = some 2 := by kernel_rfl
theorem rn_allocY {ρ : Operand → Value} {o : Oper} (h : o.op = .alloc 62) (w : World) : (execOp ρ o).run Tryd.prog w = .ok (.value (.pointer (some ⟨w.heap.size, 0, none⟩))) (w.alloc (.cells #[.int .i64 0, .int .i64 0] 62)) := by
  unfold execOp
  simp only [h]
  kernel_rfl
theorem rn_bsU1 {ρ : Operand → Value} {o : Oper} {x0 : Operand} {i0 : Int} (h : o.op = .buildSlice 64 1 #[(0, x0)]) (h0 : ρ x0 = .int .u8 i0) (w : World) : (execOp ρ o).run Tryd.prog w = .ok (.value (.slice (some ⟨w.heap.size, 0, none⟩) 1 1)) (w.alloc (.cells #[.int .u8 i0] 5)) := by
  unfold execOp
  simp only [h, List.map_toArray, List.map_cons, List.map_nil, h0]
  kernel_rfl
theorem rn_cvBS1 {ρ : Operand → Value} {o : Oper} {x : Operand} {g : Nat} {t : TypeId} {c : UInt8} {w : World} (h : o.op = .convert 64 9 x) (hx : ρ x = .slice (some ⟨g, 0, none⟩) 1 1) (hB : Blk w g t #[.int .u8 c.toNat]) : (execOp ρ o).run Tryd.prog w = .ok (.value (.string (bs [c]))) w := by
  have e := run_convert_bytes_back (P := Tryd.prog) w 64 9 5 ⟨g, 0, none⟩ 1 [c] Tryd.underlying64 Tryd.underlying5 Tryd.underlying9 (fun j hj => by
    obtain rfl : j = 0 := by simpa using hj
    rw [addr_add, hB.cell]
    rfl)
  unfold execOp
  simp only [h, hx]
  simp only [List.length_singleton] at e
  simp only [Sem.run_bind, e, Result.andThen_ok, Sem.run_pure]
section
variable {ρ : Operand → Value} {o : Oper} {x y : Operand}
theorem rn_eqB {i j b : Bool} (h : o.op = .binOp .eql 4 x y 4) (hx : ρ x = .bool i) (hy : ρ y = .bool j) (hb : (i == j) = b) (w : World) : (execOp ρ o).run Tryd.prog w = .ok (.value (.bool b)) w := by
  subst hb
  obtain ⟨dst, op, ty, pos, after, guard⟩ := o
  simp only at h
  subst h
  go_simp
theorem rn_neB {i j b : Bool} (h : o.op = .binOp .neq 4 x y 4) (hx : ρ x = .bool i) (hy : ρ y = .bool j) (hb : (!(i == j)) = b) (w : World) : (execOp ρ o).run Tryd.prog w = .ok (.value (.bool b)) w := by
  subst hb
  obtain ⟨dst, op, ty, pos, after, guard⟩ := o
  simp only at h
  subst h
  go_simp
end
end Go.Proofs.YtijaemfalljdoaaDoor
