/-
  What single operations yield: integers, strings, slices of numbers, builders.
-/
import Derived.Test.YtpebpjkhkgakfaaDoorCore
import Derived.Test.YtpebpjkhkgakfaaDoorPar
import Derived.Laws.IdiomStrings
import Derived.Laws.RangeAny
import Derived.Lib.OthersKept
import Derived.Laws.CopyRow
import Derived.Laws.MakeOwn
namespace Go.Proofs.YtpebpjkhkgakfaaDoor
open Go.RowKit

section
variable {ρ : Operand → Value} {o : Oper} {x y : Operand}
theorem rn_lsI {i j : Int} {b : Bool} (h : o.op = .binOp .lss 3 x y 3) (hx : ρ x = .int .i64 i) (hy : ρ y = .int .i64 j) (hb : decide (i < j) = b) (w : World) : (execOp ρ o).run Tryd.prog w = .ok (.value (.bool b)) w := by
  subst hb
  obtain ⟨dst, op, ty, pos, after, guard⟩ := o
  simp only at h
  subst h
  go_simp
theorem rn_leI {i j : Int} {b : Bool} (h : o.op = .binOp .leq 3 x y 3) (hx : ρ x = .int .i64 i) (hy : ρ y = .int .i64 j) (hb : decide (i ≤ j) = b) (w : World) : (execOp ρ o).run Tryd.prog w = .ok (.value (.bool b)) w := by
  subst hb
  obtain ⟨dst, op, ty, pos, after, guard⟩ := o
  simp only at h
  subst h
  go_simp
theorem rn_gtI {i j : Int} {b : Bool} (h : o.op = .binOp .gtr 3 x y 3) (hx : ρ x = .int .i64 i) (hy : ρ y = .int .i64 j) (hb : decide (j < i) = b) (w : World) : (execOp ρ o).run Tryd.prog w = .ok (.value (.bool b)) w := by
  subst hb
  obtain ⟨dst, op, ty, pos, after, guard⟩ := o
  simp only at h
  subst h
  go_simp
theorem rn_geI {i j : Int} {b : Bool} (h : o.op = .binOp .geq 3 x y 3) (hx : ρ x = .int .i64 i) (hy : ρ y = .int .i64 j) (hb : decide (j ≤ i) = b) (w : World) : (execOp ρ o).run Tryd.prog w = .ok (.value (.bool b)) w := by
  subst hb
  obtain ⟨dst, op, ty, pos, after, guard⟩ := o
  simp only at h
  subst h
  go_simp
theorem rn_eqI {i j : Int} {b : Bool} (h : o.op = .binOp .eql 3 x y 3) (hx : ρ x = .int .i64 i) (hy : ρ y = .int .i64 j) (hb : (i == j) = b) (w : World) : (execOp ρ o).run Tryd.prog w = .ok (.value (.bool b)) w := by
  subst hb
  obtain ⟨dst, op, ty, pos, after, guard⟩ := o
  simp only at h
  subst h
  go_simp
theorem rn_neI {i j : Int} {b : Bool} (h : o.op = .binOp .neq 3 x y 3) (hx : ρ x = .int .i64 i) (hy : ρ y = .int .i64 j) (hb : (i != j) = b) (w : World) : (execOp ρ o).run Tryd.prog w = .ok (.value (.bool b)) w := by
  subst hb
  obtain ⟨dst, op, ty, pos, after, guard⟩ := o
  simp only at h
  subst h
  go_simp
end
section
variable {ρ : Operand → Value} {o : Oper} {x y : Operand}
theorem rn_eqE {i j : Int} {b : Bool} (h : o.op = .binOp .eql 29 x y 29) (hx : ρ x = .int .i64 i) (hy : ρ y = .int .i64 j) (hb : (i == j) = b) (w : World) : (execOp ρ o).run Tryd.prog w = .ok (.value (.bool b)) w := by
  subst hb
  obtain ⟨dst, op, ty, pos, after, guard⟩ := o
  simp only at h
  subst h
  go_simp
theorem rn_neE {i j : Int} {b : Bool} (h : o.op = .binOp .neq 29 x y 29) (hx : ρ x = .int .i64 i) (hy : ρ y = .int .i64 j) (hb : (i != j) = b) (w : World) : (execOp ρ o).run Tryd.prog w = .ok (.value (.bool b)) w := by
  subst hb
  obtain ⟨dst, op, ty, pos, after, guard⟩ := o
  simp only at h
  subst h
  go_simp
end
section
variable {ρ : Operand → Value} {o : Oper} {x y : Operand}
theorem rn_lsU {i j : Int} {b : Bool} (h : o.op = .binOp .lss 5 x y 5) (hx : ρ x = .int .u8 i) (hy : ρ y = .int .u8 j) (hb : decide (i < j) = b) (w : World) : (execOp ρ o).run Tryd.prog w = .ok (.value (.bool b)) w := by
  subst hb
  obtain ⟨dst, op, ty, pos, after, guard⟩ := o
  simp only at h
  subst h
  go_simp
theorem rn_gtU {i j : Int} {b : Bool} (h : o.op = .binOp .gtr 5 x y 5) (hx : ρ x = .int .u8 i) (hy : ρ y = .int .u8 j) (hb : decide (j < i) = b) (w : World) : (execOp ρ o).run Tryd.prog w = .ok (.value (.bool b)) w := by
  subst hb
  obtain ⟨dst, op, ty, pos, after, guard⟩ := o
  simp only at h
  subst h
  go_simp
theorem rn_eqU {i j : Int} {b : Bool} (h : o.op = .binOp .eql 5 x y 5) (hx : ρ x = .int .u8 i) (hy : ρ y = .int .u8 j) (hb : (i == j) = b) (w : World) : (execOp ρ o).run Tryd.prog w = .ok (.value (.bool b)) w := by
  subst hb
  obtain ⟨dst, op, ty, pos, after, guard⟩ := o
  simp only at h
  subst h
  go_simp
end
section
variable {ρ : Operand → Value} {o : Oper} {x y : Operand}
theorem rn_lsR {i j : Int} {b : Bool} (h : o.op = .binOp .lss 21 x y 21) (hx : ρ x = .int .i32 i) (hy : ρ y = .int .i32 j) (hb : decide (i < j) = b) (w : World) : (execOp ρ o).run Tryd.prog w = .ok (.value (.bool b)) w := by
  subst hb
  obtain ⟨dst, op, ty, pos, after, guard⟩ := o
  simp only at h
  subst h
  go_simp
theorem rn_leR {i j : Int} {b : Bool} (h : o.op = .binOp .leq 21 x y 21) (hx : ρ x = .int .i32 i) (hy : ρ y = .int .i32 j) (hb : decide (i ≤ j) = b) (w : World) : (execOp ρ o).run Tryd.prog w = .ok (.value (.bool b)) w := by
  subst hb
  obtain ⟨dst, op, ty, pos, after, guard⟩ := o
  simp only at h
  subst h
  go_simp
theorem rn_gtR {i j : Int} {b : Bool} (h : o.op = .binOp .gtr 21 x y 21) (hx : ρ x = .int .i32 i) (hy : ρ y = .int .i32 j) (hb : decide (j < i) = b) (w : World) : (execOp ρ o).run Tryd.prog w = .ok (.value (.bool b)) w := by
  subst hb
  obtain ⟨dst, op, ty, pos, after, guard⟩ := o
  simp only at h
  subst h
  go_simp
theorem rn_geR {i j : Int} {b : Bool} (h : o.op = .binOp .geq 21 x y 21) (hx : ρ x = .int .i32 i) (hy : ρ y = .int .i32 j) (hb : decide (j ≤ i) = b) (w : World) : (execOp ρ o).run Tryd.prog w = .ok (.value (.bool b)) w := by
  subst hb
  obtain ⟨dst, op, ty, pos, after, guard⟩ := o
  simp only at h
  subst h
  go_simp
theorem rn_eqR {i j : Int} {b : Bool} (h : o.op = .binOp .eql 21 x y 21) (hx : ρ x = .int .i32 i) (hy : ρ y = .int .i32 j) (hb : (i == j) = b) (w : World) : (execOp ρ o).run Tryd.prog w = .ok (.value (.bool b)) w := by
  subst hb
  obtain ⟨dst, op, ty, pos, after, guard⟩ := o
  simp only at h
  subst h
  go_simp
theorem rn_neR {i j : Int} {b : Bool} (h : o.op = .binOp .neq 21 x y 21) (hx : ρ x = .int .i32 i) (hy : ρ y = .int .i32 j) (hb : (i != j) = b) (w : World) : (execOp ρ o).run Tryd.prog w = .ok (.value (.bool b)) w := by
  subst hb
  obtain ⟨dst, op, ty, pos, after, guard⟩ := o
  simp only at h
  subst h
  go_simp
end
section
variable {ρ : Operand → Value} {o : Oper} {x y : Operand}
theorem rn_addI {i j r : Int} (h : o.op = .binOp .add 3 x y 3) (hx : ρ x = .int .i64 i) (hy : ρ y = .int .i64 j) (hr : IntKind.i64.wrap (i + j) = r) (w : World) : (execOp ρ o).run Tryd.prog w = .ok (.value (.int .i64 r)) w := by
  subst hr
  obtain ⟨dst, op, ty, pos, after, guard⟩ := o
  simp only at h
  subst h
  go_simp
theorem rn_subI {i j r : Int} (h : o.op = .binOp .sub 3 x y 3) (hx : ρ x = .int .i64 i) (hy : ρ y = .int .i64 j) (hr : IntKind.i64.wrap (i - j) = r) (w : World) : (execOp ρ o).run Tryd.prog w = .ok (.value (.int .i64 r)) w := by
  subst hr
  obtain ⟨dst, op, ty, pos, after, guard⟩ := o
  simp only at h
  subst h
  go_simp
theorem rn_mulI {i j r : Int} (h : o.op = .binOp .mul 3 x y 3) (hx : ρ x = .int .i64 i) (hy : ρ y = .int .i64 j) (hr : IntKind.i64.wrap (i * j) = r) (w : World) : (execOp ρ o).run Tryd.prog w = .ok (.value (.int .i64 r)) w := by
  subst hr
  obtain ⟨dst, op, ty, pos, after, guard⟩ := o
  simp only at h
  subst h
  go_simp
end
section
variable {ρ : Operand → Value} {o : Oper} {x y : Operand}
theorem rn_addU {i j r : Int} (h : o.op = .binOp .add 5 x y 5) (hx : ρ x = .int .u8 i) (hy : ρ y = .int .u8 j) (hr : IntKind.u8.wrap (i + j) = r) (w : World) : (execOp ρ o).run Tryd.prog w = .ok (.value (.int .u8 r)) w := by
  subst hr
  obtain ⟨dst, op, ty, pos, after, guard⟩ := o
  simp only at h
  subst h
  go_simp
theorem rn_subU {i j r : Int} (h : o.op = .binOp .sub 5 x y 5) (hx : ρ x = .int .u8 i) (hy : ρ y = .int .u8 j) (hr : IntKind.u8.wrap (i - j) = r) (w : World) : (execOp ρ o).run Tryd.prog w = .ok (.value (.int .u8 r)) w := by
  subst hr
  obtain ⟨dst, op, ty, pos, after, guard⟩ := o
  simp only at h
  subst h
  go_simp
end
section
variable {ρ : Operand → Value} {o : Oper} {x y : Operand}
theorem rn_subR {i j r : Int} (h : o.op = .binOp .sub 21 x y 21) (hx : ρ x = .int .i32 i) (hy : ρ y = .int .i32 j) (hr : IntKind.i32.wrap (i - j) = r) (w : World) : (execOp ρ o).run Tryd.prog w = .ok (.value (.int .i32 r)) w := by
  subst hr
  obtain ⟨dst, op, ty, pos, after, guard⟩ := o
  simp only at h
  subst h
  go_simp
end
section
variable {ρ : Operand → Value} {o : Oper} {x y : Operand}
set_option linter.unusedSimpArgs false in
theorem rn_remI {i j r : Int} (h : o.op = .binOp .rem 3 x y 3) (hx : ρ x = .int .i64 i) (hy : ρ y = .int .i64 j) (hj : 0 < j) (hr : i.tmod j = r) (w : World) : (execOp ρ o).run Tryd.prog w = .ok (.value (.int .i64 r)) w := by
  subst hr
  have e : (Op.intDiv .rem .i64 i j).run Tryd.prog w = .ok (.int .i64 (i.tmod j)) w := by
    unfold Op.intDiv
    rw [if_neg (by omega)]
    rfl
  unfold execOp
  simp only [h, hx, hy, binOp, Sem.run_bind, eqGuard, Bool.not_false, if_true, ne_eq, not_true_eq_false, if_false, e, Result.andThen_ok, Sem.run_pure]
set_option linter.unusedSimpArgs false in
theorem rn_quoI {i j r : Int} (h : o.op = .binOp .quo 3 x y 3) (hx : ρ x = .int .i64 i) (hy : ρ y = .int .i64 j) (hj : 0 < j) (hr : IntKind.i64.wrap (i.tdiv j) = r) (w : World) : (execOp ρ o).run Tryd.prog w = .ok (.value (.int .i64 r)) w := by
  subst hr
  have e : (Op.intDiv .quo .i64 i j).run Tryd.prog w = .ok (.int .i64 (IntKind.i64.wrap (i.tdiv j))) w := by
    unfold Op.intDiv
    rw [if_neg (by omega)]
    rfl
  unfold execOp
  simp only [h, hx, hy, binOp, Sem.run_bind, eqGuard, Bool.not_false, if_true, ne_eq, not_true_eq_false, if_false, e, Result.andThen_ok, Sem.run_pure]
theorem rn_remNI {i j r : Int} (h : o.op = .binOp .rem 3 x y 3) (hx : ρ x = .int .i64 i) (hy : ρ y = .int .i64 j) (h0 : 0 ≤ i) (hj : 0 < j) (hr : i % j = r) (w : World) : (execOp ρ o).run Tryd.prog w = .ok (.value (.int .i64 r)) w :=
  rn_remI h hx hy hj ((Int.tmod_eq_emod_of_nonneg h0).trans hr) w
theorem rn_quoNI {i j r : Int} (h : o.op = .binOp .quo 3 x y 3) (hx : ρ x = .int .i64 i) (hy : ρ y = .int .i64 j) (h0 : 0 ≤ i) (h1 : i ≤ 9223372036854775807) (hj : 0 < j) (hr : i / j = r) (w : World) : (execOp ρ o).run Tryd.prog w = .ok (.value (.int .i64 r)) w := by
  refine rn_quoI h hx hy hj ?_ w
  rw [Int.tdiv_eq_ediv_of_nonneg h0, hr]
  have h2 : i / j ≤ i := Int.ediv_le_self _ h0
  have h3 : 0 ≤ i / j := Int.ediv_nonneg h0 (by omega)
  exact IntWalk.i64_in _ ⟨by omega, by omega⟩
end
section
variable {ρ : Operand → Value} {o : Oper} {x y : Operand}
set_option linter.unusedSimpArgs false in
theorem rn_remU {i j r : Int} (h : o.op = .binOp .rem 5 x y 5) (hx : ρ x = .int .u8 i) (hy : ρ y = .int .u8 j) (hj : 0 < j) (hr : i.tmod j = r) (w : World) : (execOp ρ o).run Tryd.prog w = .ok (.value (.int .u8 r)) w := by
  subst hr
  have e : (Op.intDiv .rem .u8 i j).run Tryd.prog w = .ok (.int .u8 (i.tmod j)) w := by
    unfold Op.intDiv
    rw [if_neg (by omega)]
    rfl
  unfold execOp
  simp only [h, hx, hy, binOp, Sem.run_bind, eqGuard, Bool.not_false, if_true, ne_eq, not_true_eq_false, if_false, e, Result.andThen_ok, Sem.run_pure]
set_option linter.unusedSimpArgs false in
theorem rn_quoU {i j r : Int} (h : o.op = .binOp .quo 5 x y 5) (hx : ρ x = .int .u8 i) (hy : ρ y = .int .u8 j) (hj : 0 < j) (hr : IntKind.u8.wrap (i.tdiv j) = r) (w : World) : (execOp ρ o).run Tryd.prog w = .ok (.value (.int .u8 r)) w := by
  subst hr
  have e : (Op.intDiv .quo .u8 i j).run Tryd.prog w = .ok (.int .u8 (IntKind.u8.wrap (i.tdiv j))) w := by
    unfold Op.intDiv
    rw [if_neg (by omega)]
    rfl
  unfold execOp
  simp only [h, hx, hy, binOp, Sem.run_bind, eqGuard, Bool.not_false, if_true, ne_eq, not_true_eq_false, if_false, e, Result.andThen_ok, Sem.run_pure]
end
section
variable {ρ : Operand → Value} {o : Oper} {x y : Operand}
theorem rn_remNU {i j r : Int} (h : o.op = .binOp .rem 5 x y 5) (hx : ρ x = .int .u8 i) (hy : ρ y = .int .u8 j) (h0 : 0 ≤ i) (hj : 0 < j) (hr : i % j = r) (w : World) : (execOp ρ o).run Tryd.prog w = .ok (.value (.int .u8 r)) w :=
  rn_remU h hx hy hj ((Int.tmod_eq_emod_of_nonneg h0).trans hr) w
end
section
variable {ρ : Operand → Value} {o : Oper} {x y : Operand}
theorem rn_cvUI {i r : Int} (h : o.op = .convert 5 3 x) (hx : ρ x = .int .u8 i) (hr : IntKind.i64.wrap i = r) (w : World) : (execOp ρ o).run Tryd.prog w = .ok (.value (.int .i64 r)) w := by
  subst hr
  obtain ⟨dst, op, ty, pos, after, guard⟩ := o
  simp only at h
  subst h
  go_simp
end
section
variable {ρ : Operand → Value} {o : Oper} {x y : Operand}
theorem rn_cvIU {i r : Int} (h : o.op = .convert 3 5 x) (hx : ρ x = .int .i64 i) (hr : IntKind.u8.wrap i = r) (w : World) : (execOp ρ o).run Tryd.prog w = .ok (.value (.int .u8 r)) w := by
  subst hr
  obtain ⟨dst, op, ty, pos, after, guard⟩ := o
  simp only at h
  subst h
  go_simp
end
section
variable {ρ : Operand → Value} {o : Oper} {x y : Operand}
theorem rn_cvRI {i r : Int} (h : o.op = .convert 21 3 x) (hx : ρ x = .int .i32 i) (hr : IntKind.i64.wrap i = r) (w : World) : (execOp ρ o).run Tryd.prog w = .ok (.value (.int .i64 r)) w := by
  subst hr
  obtain ⟨dst, op, ty, pos, after, guard⟩ := o
  simp only at h
  subst h
  go_simp
end
section
variable {ρ : Operand → Value} {o : Oper} {x y : Operand}
theorem rn_cvUR {i r : Int} (h : o.op = .convert 5 21 x) (hx : ρ x = .int .u8 i) (hr : IntKind.i32.wrap i = r) (w : World) : (execOp ρ o).run Tryd.prog w = .ok (.value (.int .i32 r)) w := by
  subst hr
  obtain ⟨dst, op, ty, pos, after, guard⟩ := o
  simp only at h
  subst h
  go_simp
end
section
variable {ρ : Operand → Value} {o : Oper} {x y : Operand}
theorem rn_minI {i j r : Int} (h : o.op = .call { callee := .builtin .min, args := #[x, y], argTypes := #[3, 3] }) (hx : ρ x = .int .i64 i) (hy : ρ y = .int .i64 j) (hr : min i j = r) (w : World) : (execOp ρ o).run Tryd.prog w = .ok (.value (.int .i64 r)) w := by
  subst hr
  obtain ⟨dst, op, ty, pos, after, guard⟩ := o
  simp only at h
  subst h
  go_simp
  split <;> omega
theorem rn_maxI {i j r : Int} (h : o.op = .call { callee := .builtin .max, args := #[x, y], argTypes := #[3, 3] }) (hx : ρ x = .int .i64 i) (hy : ρ y = .int .i64 j) (hr : max i j = r) (w : World) : (execOp ρ o).run Tryd.prog w = .ok (.value (.int .i64 r)) w := by
  subst hr
  obtain ⟨dst, op, ty, pos, after, guard⟩ := o
  simp only at h
  subst h
  go_simp
  split <;> omega
end
/-- The string with these bytes. -/
abbrev bs (l : List UInt8) : ByteArray := ⟨l.toArray⟩
theorem bs_eq (s : ByteArray) : s = bs s.data.toList := by cases s; rfl
theorem bs_size (l : List UInt8) : (bs l).size = l.length := by show l.toArray.size = _; simp
theorem bs_inj {a b : List UInt8} : bs a = bs b ↔ a = b := ⟨fun h => by have := congrArg (fun s : ByteArray => s.data.toList) h; simpa using this, fun h => by rw [h]⟩
theorem bs_add (a b : List UInt8) : bs a ++ bs b = bs (a ++ b) := by
  apply ByteArray.ext
  simp [bs]
section
variable {ρ : Operand → Value} {o : Oper} {x y : Operand}
theorem rn_eqS {a c : List UInt8} {b : Bool} (h : o.op = .binOp .eql 9 x y 9) (hx : ρ x = .string (bs a)) (hy : ρ y = .string (bs c)) (hb : decide (a = c) = b) (w : World) : (execOp ρ o).run Tryd.prog w = .ok (.value (.bool b)) w := by
  have e : (a == c) = b := by rw [← hb, Bool.eq_iff_iff]; simp
  clear hb
  obtain ⟨dst, op, ty, pos, after, guard⟩ := o
  simp only at h
  subst h
  go_simp
theorem rn_neS {a c : List UInt8} {b : Bool} (h : o.op = .binOp .neq 9 x y 9) (hx : ρ x = .string (bs a)) (hy : ρ y = .string (bs c)) (hb : (!decide (a = c)) = b) (w : World) : (execOp ρ o).run Tryd.prog w = .ok (.value (.bool b)) w := by
  have e : (!(a == c)) = b := by rw [← hb, Bool.eq_iff_iff]; simp
  clear hb
  obtain ⟨dst, op, ty, pos, after, guard⟩ := o
  simp only at h
  subst h
  go_simp
theorem rn_addS {a c r : List UInt8} (h : o.op = .binOp .add 9 x y 9) (hx : ρ x = .string (bs a)) (hy : ρ y = .string (bs c)) (hl : a.length + c.length ≤ 4294967296) (hr : a ++ c = r) (w : World) : (execOp ρ o).run Tryd.prog w = .ok (.value (.string (bs r))) w := by
  subst hr
  rw [← bs_add]
  obtain ⟨dst, op, ty, pos, after, guard⟩ := o
  simp only at h
  subst h
  have e1 := bs_size a
  have e2 := bs_size c
  go_simp
  omega
theorem rn_lenS {a : List UInt8} (h : o.op = .call { callee := .builtin .len, args := #[x], argTypes := #[9] }) (hx : ρ x = .string (bs a)) (w : World) : (execOp ρ o).run Tryd.prog w = .ok (.value (.int .i64 a.length)) w := by
  obtain ⟨dst, op, ty, pos, after, guard⟩ := o
  simp only at h
  subst h
  have e1 := bs_size a
  go_simp
theorem rn_ixS {a : List UInt8} {k : Nat} {c : UInt8} (h : o.op = .index 9 x y) (hx : ρ x = .string (bs a)) (hy : ρ y = .int .i64 k) (hc : a[k]? = some c) (w : World) : (execOp ρ o).run Tryd.prog w = .ok (.value (.int .u8 c.toNat)) w := by
  obtain ⟨hk, rfl⟩ := List.getElem?_eq_some_iff.1 hc
  obtain ⟨dst, op, ty, pos, after, guard⟩ := o
  simp only at h
  subst h
  have e1 := bs_size a
  go_simp
  rfl
end
theorem rn_bsU1 {ρ : Operand → Value} {o : Oper} {x0 : Operand} {i0 : Int} (h : o.op = .buildSlice 61 1 #[(0, x0)]) (h0 : ρ x0 = .int .u8 i0) (w : World) : (execOp ρ o).run Tryd.prog w = .ok (.value (.slice (some ⟨w.heap.size, 0, none⟩) 1 1)) (w.alloc (.cells #[.int .u8 i0] 5)) := by
  unfold execOp
  simp only [h, List.map_toArray, List.map_cons, List.map_nil, h0]
  kernel_rfl
theorem rn_cvBS1 {ρ : Operand → Value} {o : Oper} {x : Operand} {g : Nat} {t : TypeId} {c : UInt8} {w : World} (h : o.op = .convert 61 9 x) (hx : ρ x = .slice (some ⟨g, 0, none⟩) 1 1) (hB : Blk w g t #[.int .u8 c.toNat]) : (execOp ρ o).run Tryd.prog w = .ok (.value (.string (bs [c]))) w := by
  have e := run_convert_bytes_back (P := Tryd.prog) w 61 9 5 ⟨g, 0, none⟩ 1 [c] Tryd.underlying61 Tryd.underlying5 Tryd.underlying9 (fun j hj => by
    obtain rfl : j = 0 := by simpa using hj
    rw [addr_add, hB.cell]
    rfl)
  unfold execOp
  simp only [h, hx]
  simp only [List.length_singleton] at e
  simp only [Sem.run_bind, e, Result.andThen_ok, Sem.run_pure]
section
variable {ρ : Operand → Value} {o : Oper} {x y : Operand}
theorem rn_eqB {i j b : Bool} (h : o.op = .binOp .eql 4 x y 4) (hx : ρ x = .bool i) (hy : ρ y = .bool j) (hb : (i == j) = b) (w : World) : (execOp ρ o).run Tryd.prog w = .ok (.value (.bool b)) w := by
  subst hb
  obtain ⟨dst, op, ty, pos, after, guard⟩ := o
  simp only at h
  subst h
  go_simp
theorem rn_neB {i j b : Bool} (h : o.op = .binOp .neq 4 x y 4) (hx : ρ x = .bool i) (hy : ρ y = .bool j) (hb : (!(i == j)) = b) (w : World) : (execOp ρ o).run Tryd.prog w = .ok (.value (.bool b)) w := by
  subst hb
  obtain ⟨dst, op, ty, pos, after, guard⟩ := o
  simp only at h
  subst h
  go_simp
end

/-- Where a slice begins in its block. -/
def offA : Option Addr → Nat
  | some a => a.off
  | none => 0
/-- Numbers and texts as values. -/
abbrev ivs (l : List Int) : List Value := l.map (.int .i64 ·)
abbrev rvs (l : List Int) : List Value := l.map (.int .i32 ·)
abbrev svs (l : List (List UInt8)) : List Value := l.map (fun s => .string (bs s))
section
variable {ρ : Operand → Value} {o : Oper} {x y : Operand}
theorem rn_lenJ {A : Option Addr} {n c : Nat} (h : o.op = .call { callee := .builtin .len, args := #[x], argTypes := #[22] }) (hv : ρ x = .slice A n c) (w : World) : (execOp ρ o).run Tryd.prog w = .ok (.value (.int .i64 n)) w := by
  obtain ⟨dst, op, ty, pos, after, guard⟩ := o
  simp only at h
  subst h
  go_simp
theorem rn_idxJ {A : Addr} {n c i : Nat} {p : Value} (h : o.op = .indexAddr 22 x y) (hx : ρ x = .slice (some A) n c) (hy : ρ y = .int .i64 i) (hi : i < n) (hp : .pointer (some (A.add (i * 1))) = p) (w : World) : (execOp ρ o).run Tryd.prog w = .ok (.value p) w := by
  subst hp
  obtain ⟨dst, op, ty, pos, after, guard⟩ := o
  simp only at h
  subst h
  go_simp
theorem run_loadJs (w : World) {b o : Nat} {v : Value} (hc : w.cell? ⟨b, o, none⟩ = some v) : (Instr.loadAt 22 (.pointer (some ⟨b, o, none⟩))).run Tryd.prog w = .ok v w := by
  have hn : (isAgg 22).run Tryd.prog w = .ok false w := by simp [isAgg, run_underlying Tryd.underlying22]
  simp only [Instr.loadAt, Instr.sureAddr, loadVar, Sem.run_bind, Sem.run_pure, Result.andThen_ok, hn]
  rw [if_neg (by decide), run_load, hc]
theorem rn_ldJs {g off : Nat} {t : TypeId} {cs : Array Value} {v : Value} {w : World} (h : o.op = .load 22 x) (hx : ρ x = .pointer (some ⟨g, off, none⟩)) (hB : Blk w g t cs) (hv : cs[off]? = some v) :
    (execOp ρ o).run Tryd.prog w = .ok (.value v) w := by
  unfold execOp
  simp only [h, hx, run_loadJs w ((hB.cell off).trans hv), Sem.run_bind, Sem.run_pure, Result.andThen_ok]
theorem infoJs1 : (Tryd.prog.info? 22).map (·.size) = some 1 := by kernel_rfl
end
theorem rn_bsJ1 {ρ : Operand → Value} {o : Oper} {x0 : Operand} {i0 : Int} (h : o.op = .buildSlice 22 1 #[(0, x0)]) (h0 : ρ x0 = .int .i64 i0) (w : World) : (execOp ρ o).run Tryd.prog w = .ok (.value (.slice (some ⟨w.heap.size, 0, none⟩) 1 1)) (w.alloc (.cells #[.int .i64 i0] 3)) := by
  unfold execOp
  simp only [h, List.map_toArray, List.map_cons, List.map_nil, h0]
  kernel_rfl
theorem rn_bsJ2 {ρ : Operand → Value} {o : Oper} {x0 x1 : Operand} {i0 i1 : Int} (h : o.op = .buildSlice 22 2 #[(0, x0), (1, x1)]) (h0 : ρ x0 = .int .i64 i0) (h1 : ρ x1 = .int .i64 i1) (w : World) : (execOp ρ o).run Tryd.prog w = .ok (.value (.slice (some ⟨w.heap.size, 0, none⟩) 2 2)) (w.alloc (.cells #[.int .i64 i0, .int .i64 i1] 3)) := by
  unfold execOp
  simp only [h, List.map_toArray, List.map_cons, List.map_nil, h0, h1]
  kernel_rfl
theorem rn_bsJ3 {ρ : Operand → Value} {o : Oper} {x0 x1 x2 : Operand} {i0 i1 i2 : Int} (h : o.op = .buildSlice 22 3 #[(0, x0), (1, x1), (2, x2)]) (h0 : ρ x0 = .int .i64 i0) (h1 : ρ x1 = .int .i64 i1) (h2 : ρ x2 = .int .i64 i2) (w : World) : (execOp ρ o).run Tryd.prog w = .ok (.value (.slice (some ⟨w.heap.size, 0, none⟩) 3 3)) (w.alloc (.cells #[.int .i64 i0, .int .i64 i1, .int .i64 i2] 3)) := by
  unfold execOp
  simp only [h, List.map_toArray, List.map_cons, List.map_nil, h0, h1, h2]
  kernel_rfl

section
variable {ρ : Operand → Value} {o : Oper} {x y z : Operand}
theorem rn_ixJ {w : World} {A : Option Addr} {b n c k : Nat} {i : Int} {xs : List Value} (hr : Rd w b A n xs) (h : o.op = .indexAddr 22 x y) (hx : ρ x = .slice A n c) (hy : ρ y = .int .i64 i) (e : i = (k : Int)) (hk : k < n) :
    (execOp ρ o).run Tryd.prog w = .ok (.value (.pointer (some ⟨b, offA A + k, none⟩))) w := by
  subst e
  obtain ⟨q, rfl, -, -⟩ := hr.2 (by omega)
  exact rn_idxJ (i := k) h hx hy hk (by rw [addr_add, Nat.mul_one]; rfl) w
theorem infoJe1 : (Tryd.prog.info? 3).map (fun i => (i.zero, i.size, i.bytes)) = some (some (.int .i64 0), 1, 8) := by kernel_rfl
end
section
variable {ρ : Operand → Value} {o : Oper} {x y : Operand}
theorem rn_lenQ {A : Option Addr} {n c : Nat} (h : o.op = .call { callee := .builtin .len, args := #[x], argTypes := #[35] }) (hv : ρ x = .slice A n c) (w : World) : (execOp ρ o).run Tryd.prog w = .ok (.value (.int .i64 n)) w := by
  obtain ⟨dst, op, ty, pos, after, guard⟩ := o
  simp only at h
  subst h
  go_simp
theorem rn_idxQ {A : Addr} {n c i : Nat} {p : Value} (h : o.op = .indexAddr 35 x y) (hx : ρ x = .slice (some A) n c) (hy : ρ y = .int .i64 i) (hi : i < n) (hp : .pointer (some (A.add (i * 1))) = p) (w : World) : (execOp ρ o).run Tryd.prog w = .ok (.value p) w := by
  subst hp
  obtain ⟨dst, op, ty, pos, after, guard⟩ := o
  simp only at h
  subst h
  go_simp
theorem run_loadQs (w : World) {b o : Nat} {v : Value} (hc : w.cell? ⟨b, o, none⟩ = some v) : (Instr.loadAt 35 (.pointer (some ⟨b, o, none⟩))).run Tryd.prog w = .ok v w := by
  have hn : (isAgg 35).run Tryd.prog w = .ok false w := by simp [isAgg, run_underlying Tryd.underlying35]
  simp only [Instr.loadAt, Instr.sureAddr, loadVar, Sem.run_bind, Sem.run_pure, Result.andThen_ok, hn]
  rw [if_neg (by decide), run_load, hc]
theorem rn_ldQs {g off : Nat} {t : TypeId} {cs : Array Value} {v : Value} {w : World} (h : o.op = .load 35 x) (hx : ρ x = .pointer (some ⟨g, off, none⟩)) (hB : Blk w g t cs) (hv : cs[off]? = some v) :
    (execOp ρ o).run Tryd.prog w = .ok (.value v) w := by
  unfold execOp
  simp only [h, hx, run_loadQs w ((hB.cell off).trans hv), Sem.run_bind, Sem.run_pure, Result.andThen_ok]
theorem infoQs1 : (Tryd.prog.info? 35).map (·.size) = some 1 := by kernel_rfl
end

section
variable {ρ : Operand → Value} {o : Oper} {x y z : Operand}
theorem rn_ixQ {w : World} {A : Option Addr} {b n c k : Nat} {i : Int} {xs : List Value} (hr : Rd w b A n xs) (h : o.op = .indexAddr 35 x y) (hx : ρ x = .slice A n c) (hy : ρ y = .int .i64 i) (e : i = (k : Int)) (hk : k < n) :
    (execOp ρ o).run Tryd.prog w = .ok (.value (.pointer (some ⟨b, offA A + k, none⟩))) w := by
  subst e
  obtain ⟨q, rfl, -, -⟩ := hr.2 (by omega)
  exact rn_idxQ (i := k) h hx hy hk (by rw [addr_add, Nat.mul_one]; rfl) w
theorem infoQe1 : (Tryd.prog.info? 21).map (fun i => (i.zero, i.size, i.bytes)) = some (some (.int .i32 0), 1, 4) := by kernel_rfl
end
section
variable {ρ : Operand → Value} {o : Oper} {x y : Operand}
theorem rn_lenT {A : Option Addr} {n c : Nat} (h : o.op = .call { callee := .builtin .len, args := #[x], argTypes := #[70] }) (hv : ρ x = .slice A n c) (w : World) : (execOp ρ o).run Tryd.prog w = .ok (.value (.int .i64 n)) w := by
  obtain ⟨dst, op, ty, pos, after, guard⟩ := o
  simp only at h
  subst h
  go_simp
theorem rn_idxT {A : Addr} {n c i : Nat} {p : Value} (h : o.op = .indexAddr 70 x y) (hx : ρ x = .slice (some A) n c) (hy : ρ y = .int .i64 i) (hi : i < n) (hp : .pointer (some (A.add (i * 1))) = p) (w : World) : (execOp ρ o).run Tryd.prog w = .ok (.value p) w := by
  subst hp
  obtain ⟨dst, op, ty, pos, after, guard⟩ := o
  simp only at h
  subst h
  go_simp
theorem run_loadTs (w : World) {b o : Nat} {v : Value} (hc : w.cell? ⟨b, o, none⟩ = some v) : (Instr.loadAt 70 (.pointer (some ⟨b, o, none⟩))).run Tryd.prog w = .ok v w := by
  have hn : (isAgg 70).run Tryd.prog w = .ok false w := by simp [isAgg, run_underlying Tryd.underlying70]
  simp only [Instr.loadAt, Instr.sureAddr, loadVar, Sem.run_bind, Sem.run_pure, Result.andThen_ok, hn]
  rw [if_neg (by decide), run_load, hc]
theorem rn_ldTs {g off : Nat} {t : TypeId} {cs : Array Value} {v : Value} {w : World} (h : o.op = .load 70 x) (hx : ρ x = .pointer (some ⟨g, off, none⟩)) (hB : Blk w g t cs) (hv : cs[off]? = some v) :
    (execOp ρ o).run Tryd.prog w = .ok (.value v) w := by
  unfold execOp
  simp only [h, hx, run_loadTs w ((hB.cell off).trans hv), Sem.run_bind, Sem.run_pure, Result.andThen_ok]
theorem infoTs1 : (Tryd.prog.info? 70).map (·.size) = some 1 := by kernel_rfl
end

section
variable {ρ : Operand → Value} {o : Oper} {x y z : Operand}
theorem rn_ixT {w : World} {A : Option Addr} {b n c k : Nat} {i : Int} {xs : List Value} (hr : Rd w b A n xs) (h : o.op = .indexAddr 70 x y) (hx : ρ x = .slice A n c) (hy : ρ y = .int .i64 i) (e : i = (k : Int)) (hk : k < n) :
    (execOp ρ o).run Tryd.prog w = .ok (.value (.pointer (some ⟨b, offA A + k, none⟩))) w := by
  subst e
  obtain ⟨q, rfl, -, -⟩ := hr.2 (by omega)
  exact rn_idxT (i := k) h hx hy hk (by rw [addr_add, Nat.mul_one]; rfl) w
theorem infoTe1 : (Tryd.prog.info? 9).map (fun i => (i.zero, i.size, i.bytes)) = some (some (.string (bs [])), 1, 16) := by kernel_rfl
end

section
variable {ρ : Operand → Value} {o : Oper} {x y z : Operand} {w : World}
theorem run_loadI {ty : TypeId} {k : IntKind} (hu : Tryd.prog.underlying ty = some (.int k)) {b q : Nat} {v : Value} (hc : w.cell? ⟨b, q, none⟩ = some v) : (Instr.loadAt ty (.pointer (some ⟨b, q, none⟩))).run Tryd.prog w = .ok v w := run_load1 hu hc
/-- An element loaded. -/
theorem rn_ldJ {A : Option Addr} {b n k : Nat} {l : List Int} {v : Int} (hr : Rd w b A n (ivs l)) (h : o.op = .load 3 x) (hx : ρ x = .pointer (some ⟨b, offA A + k, none⟩)) (hk : k < n) (hv : l[k]? = some v) :
    (execOp ρ o).run Tryd.prog w = .ok (.value (.int .i64 v)) w := by
  obtain ⟨q, rfl, -, hc⟩ := hr.2 (by omega)
  have e := hc k hk
  rw [List.getElem?_map, hv] at e
  unfold execOp
  simp only [h, hx]
  simp only [Sem.run_bind, run_loadI Tryd.underlying3 (show w.cell? ⟨b, q + k, none⟩ = some (.int .i64 v) from e), Result.andThen_ok, Sem.run_pure, offA]
theorem rn_ldQ {A : Option Addr} {b n k : Nat} {l : List Int} {v : Int} (hr : Rd w b A n (rvs l)) (h : o.op = .load 21 x) (hx : ρ x = .pointer (some ⟨b, offA A + k, none⟩)) (hk : k < n) (hv : l[k]? = some v) :
    (execOp ρ o).run Tryd.prog w = .ok (.value (.int .i32 v)) w := by
  obtain ⟨q, rfl, -, hc⟩ := hr.2 (by omega)
  have e := hc k hk
  rw [List.getElem?_map, hv] at e
  unfold execOp
  simp only [h, hx]
  simp only [Sem.run_bind, run_loadI Tryd.underlying21 (show w.cell? ⟨b, q + k, none⟩ = some (.int .i32 v) from e), Result.andThen_ok, Sem.run_pure, offA]
theorem rd_blk {b : Nat} {t : TypeId} {xs : List Value} {cs : Array Value} {n : Nat} (h : Blk w b t cs) (e : cs.toList = xs) (hn : xs.length = n) : Rd w b (some ⟨b, 0, none⟩) n xs := by
  subst e
  exact Rd.of_blk h 0 hn (fun j hj => by rw [Nat.zero_add, Array.getElem?_toList])
/-! ### Builders -/
theorem undN : Tryd.prog.underlying 39 = some (.struct (Tryd.prog.fieldsOf 39)) := by kernel_rfl
theorem infoN17 : (Tryd.prog.info? 39).map (·.size) = some 17 := by kernel_rfl
theorem rn_faN0 {g off : Nat} {p : Value} (h : o.op = .fieldAddr 39 x 0) (hx : ρ x = .pointer (some ⟨g, off, none⟩)) (hp : .pointer (some ⟨g, off + 0, none⟩) = p) (w : World) : (execOp ρ o).run Tryd.prog w = .ok (.value p) w := by
  subst hp
  unfold execOp
  simp only [h, hx]
  kernel_rfl
theorem rn_faN1 {g off : Nat} {p : Value} (h : o.op = .fieldAddr 39 x 1) (hx : ρ x = .pointer (some ⟨g, off, none⟩)) (hp : .pointer (some ⟨g, off + 16, none⟩) = p) (w : World) : (execOp ρ o).run Tryd.prog w = .ok (.value p) w := by
  subst hp
  unfold execOp
  simp only [h, hx]
  kernel_rfl
theorem rn_bN (h : o.op = .build 39 #[]) (w : World) : (execOp ρ o).run Tryd.prog w = .ok (.value (.agg (cb []))) w := by
  unfold execOp
  simp only [h, List.map_toArray, List.map_nil]
  kernel_rfl
theorem rn_boxN {s : List UInt8} (h : o.op = .box 39 x) (hx : ρ x = .agg (cb s)) (w : World) : (execOp ρ o).run Tryd.prog w = .ok (.value (.pointer (some ⟨w.heap.size, 0, none⟩))) (w.alloc (.cells (cb s) 39)) := by
  unfold execOp
  simp only [h, hx]
  kernel_rfl
theorem rn_allocN (h : o.op = .alloc 39) (w : World) : (execOp ρ o).run Tryd.prog w = .ok (.value (.pointer (some ⟨w.heap.size, 0, none⟩))) (w.alloc (.cells (cb []) 39)) := by
  unfold execOp
  simp only [h]
  kernel_rfl
theorem rn_iaN {g k : Nat} {i : Int} (h : o.op = .indexAddr 37 x y) (hx : ρ x = .pointer (some ⟨g, 0, none⟩)) (hy : ρ y = .int .i64 i) (e : i = (k : Int)) (hk : k < 16) (w : World) : (execOp ρ o).run Tryd.prog w = .ok (.value (.pointer (some ⟨g, k, none⟩))) w := by
  subst e
  have hs : (Instr.indexAt 37 (.pointer (some ⟨g, 0, none⟩)) (.int .i64 (k : Int))).run Tryd.prog w = .ok (.pointer (some ⟨g, k, none⟩)) w := by
    rw [run_indexAt_array w 37 _ .i64 _ (by kernel_rfl), if_pos ⟨by omega, by rw [show Tryd.prog.arrayLen 37 = 16 by kernel_rfl]; omega⟩]
    rw [show Tryd.prog.elem 37 = 3 by kernel_rfl, Int.toNat_natCast]
    obtain ⟨ti, hi, -, hsz, -⟩ := info_parts infoJe1
    simp [sizeOf, typeInfo, hi, hsz, addr_add]
  unfold execOp
  simp only [h, hx, hy, Sem.run_bind, hs, Result.andThen_ok, Sem.run_pure]
theorem rn_eqP0 (h : o.op = .binOp .eql 36 x y 36) (hx : ρ x = .pointer none) (hy : ρ y = .pointer none) (w : World) : (execOp ρ o).run Tryd.prog w = .ok (.value (.bool true)) w := by
  obtain ⟨dst, op, ty, pos, after, guard⟩ := o
  simp only at h
  subst h
  go_simp
theorem rn_eqP1 {a : Addr} (h : o.op = .binOp .eql 36 x y 36) (hx : ρ x = .pointer (some a)) (hy : ρ y = .pointer none) (w : World) : (execOp ρ o).run Tryd.prog w = .ok (.value (.bool false)) w := by
  obtain ⟨dst, op, ty, pos, after, guard⟩ := o
  simp only at h
  subst h
  go_simp
theorem rn_neP0 (h : o.op = .binOp .neq 36 x y 36) (hx : ρ x = .pointer none) (hy : ρ y = .pointer none) (w : World) : (execOp ρ o).run Tryd.prog w = .ok (.value (.bool false)) w := by
  obtain ⟨dst, op, ty, pos, after, guard⟩ := o
  simp only at h
  subst h
  go_simp
theorem rn_neP1 {a : Addr} (h : o.op = .binOp .neq 36 x y 36) (hx : ρ x = .pointer (some a)) (hy : ρ y = .pointer none) (w : World) : (execOp ρ o).run Tryd.prog w = .ok (.value (.bool true)) w := by
  obtain ⟨dst, op, ty, pos, after, guard⟩ := o
  simp only at h
  subst h
  go_simp
theorem rn_nilck {p : Addr} (h : o.op = .nilCheck x) (hx : ρ x = .pointer (some p)) (w : World) : (execOp ρ o).run Tryd.prog w = .ok (.value (.pointer (some p))) w := by
  obtain ⟨dst, op, ty, pos, after, guard⟩ := o
  simp only at h
  subst h
  go_simp
/-- A number loaded out of a block whose cells are numbers. -/
theorem rn_ldD {g k : Nat} {t : TypeId} {l : List Int} {v : Int} (h : o.op = .load 3 x) (hx : ρ x = .pointer (some ⟨g, k, none⟩)) (hB : Blk w g t (l.map (Value.int .i64 ·)).toArray) (hv : l[k]? = some v) : (execOp ρ o).run Tryd.prog w = .ok (.value (.int .i64 v)) w :=
  rn_ld1 h hx Tryd.underlying3 hB (by rw [List.getElem?_toArray, List.getElem?_map, hv]; rfl)
/-! ### Slices made, cut, copied -/
theorem made_ints (n : Nat) : madeCells (Value.int .i64 0).cells (n * 1) = (ivs (List.replicate n 0)).toArray := by
  apply Array.ext
  · simp [madeCells]
  · intro i h1 h2
    simp [madeCells, Value.cells, ivs, Nat.mod_one]
theorem made_strs (n : Nat) : madeCells (Value.string (bs [])).cells (n * 1) = (svs (List.replicate n [])).toArray := by
  apply Array.ext
  · simp [madeCells]
  · intro i h1 h2
    simp [madeCells, Value.cells, svs, Nat.mod_one]
theorem rn_mkJ {n : Nat} {i j : Int} (h : o.op = .makeSlice 22 x y) (hx : ρ x = .int .i64 i) (hy : ρ y = .int .i64 j) (e : i = (n : Int)) (e2 : j = (n : Int)) (hn : n ≤ 1000000) (w : World) :
    (execOp ρ o).run Tryd.prog w = .ok (.value (.slice (some ⟨w.heap.size, 0, none⟩) n n)) (w.alloc (.cells (ivs (List.replicate n 0)).toArray 3)) := by
  subst e e2
  obtain ⟨ti, hi, hz, hsize, hby⟩ := info_parts infoJe1
  have hrun := run_make (P := Tryd.prog) w 22 3 ti _ Tryd.underlying22 hi hz .i64 .i64 (n : Int) (n : Int) (by omega) (by omega) (by rw [hby]; omega) (by omega)
  rw [Int.toNat_natCast, hsize, made_ints] at hrun
  unfold execOp
  simp only [h, hx, hy, Sem.run_bind, hrun, Result.andThen_ok, Sem.run_pure]
theorem rn_mkT {n : Nat} {i j : Int} (h : o.op = .makeSlice 70 x y) (hx : ρ x = .int .i64 i) (hy : ρ y = .int .i64 j) (e : i = (n : Int)) (e2 : j = (n : Int)) (hn : n ≤ 1000000) (w : World) :
    (execOp ρ o).run Tryd.prog w = .ok (.value (.slice (some ⟨w.heap.size, 0, none⟩) n n)) (w.alloc (.cells (svs (List.replicate n [])).toArray 9)) := by
  subst e e2
  obtain ⟨ti, hi, hz, hsize, hby⟩ := info_parts infoTe1
  have hrun := run_make (P := Tryd.prog) w 70 9 ti _ Tryd.underlying70 hi hz .i64 .i64 (n : Int) (n : Int) (by omega) (by omega) (by rw [hby]; omega) (by omega)
  rw [Int.toNat_natCast, hsize, made_strs] at hrun
  unfold execOp
  simp only [h, hx, hy, Sem.run_bind, hrun, Result.andThen_ok, Sem.run_pure]
set_option linter.unusedSimpArgs false in
theorem rn_slN {g : Nat} (h : o.op = .slice 37 x none none none) (hx : ρ x = .pointer (some ⟨g, 0, none⟩)) (w : World) : (execOp ρ o).run Tryd.prog w = .ok (.value (.slice (some ⟨g, 0, none⟩) 16 16)) w := by
  have hs := run_sliceAt_array_all (P := Tryd.prog) w 37 ⟨g, 0, none⟩ (by kernel_rfl)
  obtain ⟨ti, hi, -, hsz, -⟩ := info_parts infoJe1
  unfold execOp
  simp only [h, hx, List.map_nil, Option.map_none]
  rw [show Tryd.prog.elem 37 = 3 by kernel_rfl, show Tryd.prog.arrayLen 37 = 16 by kernel_rfl] at hs
  simp only [sizeOf, typeInfo, hi, hsz, Sem.run_bind, Sem.run_pure, Result.andThen_ok] at hs
  simp [hs, slicedAt, addr_add, sizeOf, typeInfo, hi]
set_option linter.unusedSimpArgs false in
theorem rn_hiJ {A : Option Addr} {n c k : Nat} {i : Int} (h : o.op = .slice 22 x none (some y) none) (hx : ρ x = .slice A n c) (hy : ρ y = .int .i64 i) (e : i = (k : Int)) (hk : k ≤ c) (w : World) : (execOp ρ o).run Tryd.prog w = .ok (.value (.slice (if c = 0 then A else A.map (·.add 0)) k c)) w := by
  subst e
  obtain ⟨ti, hi, -, hsz, -⟩ := info_parts infoJe1
  have hs := run_slice_h (P := Tryd.prog) w 22 A n c (by kernel_rfl) .i64 (k : Int) (by omega) (by omega)
  rw [show Tryd.prog.elem 22 = 3 by kernel_rfl, Int.toNat_natCast] at hs
  simp only [sizeOf, typeInfo, hi, hsz, Sem.run_bind, Sem.run_pure, Result.andThen_ok] at hs
  have h2 := run_sliceAt_slice (P := Tryd.prog) w 22 (.slice A n c) none (some (.int .i64 (k : Int))) none (by kernel_rfl)
  unfold execOp
  simp only [h, hx, hy, Option.map_none, Option.map_some]
  simp [h2, hs, sliced, sizeOf, typeInfo, hi]
end
end Go.Proofs.YtpebpjkhkgakfaaDoor
