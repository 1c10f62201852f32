/-
  Lines: used cells, fitting, putting; what follows from it.
  Lines as values: how they are made, loaded, stored; slices of cells cut, copied, made.
  Rows of cells of the call's own: append, make, copy, as runs of one operation; what else is known behind them.
  The library's functions over slices of cells.
-/
import Derived.Test.YtjcpdldaimebbaaDoorCTexts
import Derived.Test.YtjcpdldaimebbaaDoorKA
import Derived.Test.YtjcpdldaimebbaaDoorLRn
import Derived.Laws.CopyRow
import Derived.Laws.IdiomCopy
import Derived.Lib.AppendZerosOnto
import Derived.Scope
import Derived.Test.YtjcpdldaimebbaaDoorDStain
namespace Go.Proofs.YtjcpdldaimebbaaDoor

abbrev eC : Ce := blankC zeroP
/-- How many cells there are up to the last one that is not the empty cell. -/
def usedN : List Ce → Nat
  | [] => 0
  | c :: t => if usedN t = 0 then (if c = eC then 0 else 1) else usedN t + 1
theorem used_le (l : List Ce) : usedN l ≤ l.length := by
  induction l with
  | nil => exact Nat.le_refl _
  | cons c t ih =>
    simp only [usedN, List.length_cons]
    split
    · split <;> omega
    · omega
theorem used_snoc (l : List Ce) (c : Ce) : usedN (l ++ [c]) = if c = eC then usedN l else l.length + 1 := by
  induction l with
  | nil => simp [usedN]
  | cons d t ih =>
    simp only [List.cons_append, usedN, List.length_cons, ih]
    by_cases h : c = eC
    · simp only [h, if_true]
    · simp only [h, if_false]
      rw [if_neg (by omega)]
theorem used_takeS {l : List Ce} {k : Nat} {c : Ce} (h : l[k]? = some c) : usedN (l.take (k + 1)) = if c = eC then usedN (l.take k) else k + 1 := by
  have hk := (List.getElem?_eq_some_iff.1 h).1
  rw [List.take_add_one, h, Option.toList_some, used_snoc, List.length_take, Nat.min_eq_left (by omega)]
theorem used_pad (l : List Ce) (k : Nat) : usedN (l ++ List.replicate k eC) = usedN l := by
  induction k with
  | zero => simp
  | succ k ih => rw [List.replicate_succ', ← List.append_assoc, used_snoc, if_pos rfl, ih]
theorem used_rest (l : List Ce) : l.drop (usedN l) = List.replicate (l.length - usedN l) eC := by
  induction l with
  | nil => rfl
  | cons c t ih =>
    simp only [usedN]
    split
    · rename_i h0
      rw [h0] at ih
      split
      · rename_i hc
        simp only [List.drop_zero, Nat.sub_zero] at ih ⊢
        rw [List.length_cons, List.replicate_succ, ← ih, hc]
      · simp only [List.drop_succ_cons, List.length_cons]
        rw [ih]
        rfl
    · rw [List.drop_succ_cons, List.length_cons, ih]
      congr 1
      omega
theorem used_split (l : List Ce) : l.take (usedN l) ++ List.replicate (l.length - usedN l) eC = l := by
  rw [← used_rest, List.take_append_drop]
theorem used_cut (l : List Ce) : usedN (l.take (usedN l)) = usedN l := by
  rw [← used_pad (l.take (usedN l)) (l.length - usedN l), used_split]
theorem used_cutlen (l : List Ce) : (l.take (usedN l)).length = usedN l := by
  have := used_le l
  rw [List.length_take]
  omega

theorem shB_cut (y : List Ce) (hy : ∀ p, shB (some p) y = false) (x : List Ce) : ∀ q : Option Pn, shB q (x ++ y) = true → shB q x = true := by
  induction x with
  | nil =>
    intro q h
    cases q with
    | none => rfl
    | some p => rw [List.nil_append, hy p] at h; cases h
  | cons c t ih =>
    intro q h
    cases q with
    | none =>
      simp only [List.cons_append, shB, Bool.and_eq_true] at h ⊢
      exact ⟨h.1, ih _ h.2⟩
    | some p =>
      simp only [List.cons_append, shB, Bool.and_eq_true] at h ⊢
      exact ⟨h.1, ih _ h.2⟩
theorem shB_pad (k : Nat) (p : Pn) : shB (some p) (List.replicate k eC) = false := by
  cases k with
  | zero => rfl
  | succ k => simp [List.replicate_succ, shB]
theorem eC_valid : cellB eC = true := cell_blank _ (by decide +kernel)
theorem row_pad (k : Nat) : rowB (List.replicate k eC) = true := by
  have h : shB none (List.replicate k eC) = true := by
    induction k with
    | zero => rfl
    | succ k ih => simp only [List.replicate_succ, shB, wideP, Bool.and_eq_true]; exact ⟨by decide, by simpa using ih⟩
  simp only [rowB, h, Bool.and_true, List.all_eq_true]
  intro c hc
  rw [List.eq_of_mem_replicate hc]
  exact eC_valid
theorem row_cut {l : List Ce} (h : rowB l = true) : rowB (l.take (usedN l)) = true := by
  simp only [rowB, Bool.and_eq_true] at h ⊢
  rw [← used_split l, List.all_append, Bool.and_eq_true] at h
  exact ⟨h.1.1, shB_cut _ (shB_pad _) _ _ h.2⟩
theorem all_row {l : List Ce} (h : rowB l = true) : l.all cellB = true := by
  simp only [rowB, Bool.and_eq_true] at h
  exact h.1
theorem all_take {l : List Ce} (h : l.all cellB = true) (k : Nat) : (l.take k).all cellB = true := by
  rw [List.all_eq_true] at h ⊢
  exact fun c hc => h c (List.mem_of_mem_take hc)
theorem all_drop {l : List Ce} (h : l.all cellB = true) (k : Nat) : (l.drop k).all cellB = true := by
  rw [List.all_eq_true] at h ⊢
  exact fun c hc => h c (List.mem_of_mem_drop hc)
theorem fixL_len (l : List Ce) : (fixL l).length = l.length := fix_len none l

/-- A line may be so. -/
def okL (l : List Ce) : Bool := decide (l.length ≤ 1000) && rowB l
/-- What a call answers: cells, whether they are soft, an error. -/
structure Lr where
  L : List Ce
  s : Bool
  e : Int
def fitL (l : List Ce) (k : Nat) : List Ce := fixL (l.take k) ++ List.replicate (k - l.length) eC
def fitR (l : List Ce) (s : Bool) (col : Int) : Lr := if (decide (0 ≤ col) && decide (col ≤ 1000) && okL l) = true then ⟨fitL l col.toNat, s, 0⟩ else ⟨[], false, 2⟩
def putL (l : List Ce) (k : Nat) (c : List Ce) : List Ce := fixL (l.take k) ++ c ++ fixL (l.drop (k + c.length))
def putR (l : List Ce) (s : Bool) (at_ : Int) (c : List Ce) : Lr :=
  if (okL l && rowB c) = false then ⟨[], false, 2⟩ else if (decide (0 ≤ at_) && decide (at_ + c.length ≤ l.length)) = false then ⟨[], false, 3⟩ else ⟨putL l at_.toNat c, s, 0⟩
def ofR (l : List Ce) (s : Bool) : Lr := if okL l = true then ⟨l, s, 0⟩ else ⟨[], false, 2⟩
def trimR (l : List Ce) (s : Bool) : Lr := fitR l s (usedN l)
def newR (n : Int) : Lr := fitR [] false n
def isB (r : Lr) (l : List Ce) (s : Bool) (e : Int) : Bool := ((r.s == s) && decide (r.L = l)) && (r.e == e)

theorem okL_len {l : List Ce} (h : okL l = true) : l.length ≤ 1000 := by simp only [okL, Bool.and_eq_true, decide_eq_true_eq] at h; exact h.1
theorem okL_row {l : List Ce} (h : okL l = true) : rowB l = true := by simp only [okL, Bool.and_eq_true] at h; exact h.2
theorem okL_mk {l : List Ce} (h : l.length ≤ 1000) (k : rowB l = true) : okL l = true := by simp [okL, h, k]
theorem okL_nil : okL [] = true := rfl
theorem fitL_len (l : List Ce) (k : Nat) : (fitL l k).length = k := by
  rw [fitL, List.length_append, fixL_len, List.length_take, List.length_replicate]
  omega
theorem fitL_nil (k : Nat) : fitL [] k = List.replicate k eC := by simp [fitL, fixL, fixG]
theorem fitL_used {l : List Ce} (h : rowB l = true) : fitL l (usedN l) = l.take (usedN l) := by
  have := used_le l
  rw [fitL, row_fix _ (row_cut h), show usedN l - l.length = 0 by omega, List.replicate_zero, List.append_nil]
theorem fitL_wide {l : List Ce} (h : rowB l = true) (k : Nat) : fitL l (l.length + k) = l ++ List.replicate k eC := by
  rw [fitL, List.take_of_length_le (by omega), row_fix _ h, show l.length + k - l.length = k by omega]
theorem fitR_ok {l : List Ce} {s : Bool} {col : Int} (h : okL l = true) (h0 : 0 ≤ col) (h1 : col ≤ 1000) : fitR l s col = ⟨fitL l col.toNat, s, 0⟩ := by
  rw [fitR, if_pos (by simp [h, h0, h1])]
theorem fitR_no {l : List Ce} {s : Bool} {col : Int} (h : (decide (0 ≤ col) && decide (col ≤ 1000) && okL l) = false) : fitR l s col = ⟨[], false, 2⟩ := by
  rw [fitR, h, if_neg (by simp)]
theorem fitR_len (l : List Ce) (s : Bool) (col : Int) : (fitR l s col).L.length ≤ 1000 := by
  unfold fitR
  split
  · rename_i h
    simp only [Bool.and_eq_true, decide_eq_true_eq] at h
    simp only [fitL_len]
    omega
  · simp
theorem trimR_ok {l : List Ce} {s : Bool} (h : okL l = true) : trimR l s = ⟨l.take (usedN l), s, 0⟩ := by
  have h1 := used_le l
  have h2 := okL_len h
  rw [trimR, fitR_ok h (by omega) (by omega), Int.toNat_natCast, fitL_used (okL_row h)]
theorem trimR_no {l : List Ce} {s : Bool} (h : okL l = false) : trimR l s = ⟨[], false, 2⟩ := fitR_no (by simp [h])
theorem newR_ok {n : Int} (h0 : 0 ≤ n) (h1 : n ≤ 1000) : newR n = ⟨List.replicate n.toNat eC, false, 0⟩ := by
  rw [newR, fitR_ok okL_nil h0 h1, fitL_nil]
theorem ofR_len (l : List Ce) (s : Bool) : (ofR l s).L.length ≤ l.length := by
  unfold ofR
  split <;> simp
theorem putL_len {l c : List Ce} {k : Nat} (h : k + c.length ≤ l.length) : (putL l k c).length = l.length := by
  simp only [putL, List.length_append, fixL_len, List.length_take, List.length_drop]
  omega
theorem putR_len (l c : List Ce) (s : Bool) (k : Int) : (putR l s k c).L.length ≤ l.length := by
  unfold putR
  split
  · simp
  · split
    · simp
    · rename_i h
      simp only [Bool.not_eq_false, Bool.and_eq_true, decide_eq_true_eq] at h
      rw [putL_len (by omega)]
      exact Nat.le_refl _
theorem putL_row {l c : List Ce} {k : Nat} (h : rowB l = true) (hc : rowB c = true) : rowB (putL l k c) = true :=
  row_append (row_append (fix_row _ (all_take (all_row h) k)) hc) (fix_row _ (all_drop (all_row h) _))
theorem putL_mid {l c : List Ce} {k : Nat} (h : k + c.length ≤ l.length) : ((putL l k c).drop k).take c.length = c := by
  have e : (fixL (l.take k)).length = k := by rw [fixL_len, List.length_take]; omega
  rw [putL, List.append_assoc, List.drop_append, e, Nat.sub_self, List.drop_zero, List.drop_eq_nil_of_le (by omega), List.nil_append, List.take_left']
  rfl
theorem row_cut_ok {l : List Ce} (h : okL l = true) : okL (l.take (usedN l)) = true :=
  okL_mk (by have := used_le l; have := okL_len h; rw [List.length_take]; omega) (row_cut (okL_row h))
theorem take_min (l : List Ce) (k n : Nat) (h : l.length = n) : l.take (min k n) = l.take k := by
  subst h
  rcases Nat.le_total k l.length with h | h
  · rw [Nat.min_eq_left h]
  · rw [Nat.min_eq_right h, List.take_length, List.take_of_length_le h]
theorem fitL_min (l : List Ce) (k n : Nat) (h : l.length = n) : fitL l k = fixL (l.take (min k n)) ++ List.replicate (k - n) eC := by
  rw [take_min l k n h, fitL, h]
theorem sameL {l : List Ce} : decide (l = l) = true := by simp
end Go.Proofs.YtjcpdldaimebbaaDoor
namespace Go.Proofs.YtjcpdldaimebbaaDoor
open Go.RowKit

theorem undL : Tryd.prog.underlying 27 = some (.struct (Tryd.prog.fieldsOf 27)) := by kernel_rfl
theorem infoL2 : (Tryd.prog.info? 27).map (·.size) = some 2 := by kernel_rfl
theorem infoS1 : (Tryd.prog.info? 22).map (·.size) = some 1 := by kernel_rfl
theorem infoB1 : (Tryd.prog.info? 4).map (·.size) = some 1 := by kernel_rfl

theorem run_loadS (w : World) {b o : Nat} {v : Value} (hc : w.cell? ⟨b, o, none⟩ = some v) : (Instr.loadAt 22 (.pointer (some ⟨b, o, none⟩))).run Tryd.prog w = .ok v w := by
  have hn : (isAgg 22).run Tryd.prog w = .ok false w := by simp [isAgg, run_underlying Tryd.underlying22]
  simp only [Instr.loadAt, Instr.sureAddr, loadVar, Sem.run_bind, Sem.run_pure, Result.andThen_ok, hn]
  rw [if_neg (by decide), run_load, hc]
theorem run_loadB (w : World) {b o : Nat} {v : Value} (hc : w.cell? ⟨b, o, none⟩ = some v) : (Instr.loadAt 4 (.pointer (some ⟨b, o, none⟩))).run Tryd.prog w = .ok v w := by
  have hn : (isAgg 4).run Tryd.prog w = .ok false w := by simp [isAgg, run_underlying Tryd.underlying4]
  simp only [Instr.loadAt, Instr.sureAddr, loadVar, Sem.run_bind, Sem.run_pure, Result.andThen_ok, hn]
  rw [if_neg (by decide), run_load, hc]
section
variable {ρ : Operand → Value} {o : Oper} {x y : Operand}
theorem rn_boxL {A : Option Addr} {n c : Nat} {s : Bool} (h : o.op = .box 27 x) (hx : ρ x = .agg #[.slice A n c, .bool s]) (w : World) : (execOp ρ o).run Tryd.prog w = .ok (.value (.pointer (some ⟨w.heap.size, 0, none⟩))) (w.alloc (.cells #[.slice A n c, .bool s] 27)) := by
  unfold execOp
  simp only [h, hx]
  kernel_rfl
theorem rn_allocL (h : o.op = .alloc 27) (w : World) : (execOp ρ o).run Tryd.prog w = .ok (.value (.pointer (some ⟨w.heap.size, 0, none⟩))) (w.alloc (.cells #[.slice none 0 0, .bool false] 27)) := by
  unfold execOp
  simp only [h]
  kernel_rfl
theorem rn_bL (h : o.op = .build 27 #[]) (w : World) : (execOp ρ o).run Tryd.prog w = .ok (.value (.agg #[.slice none 0 0, .bool false])) w := by
  unfold execOp
  simp only [h, List.map_toArray, List.map_nil]
  kernel_rfl
theorem rn_bL0 {A : Option Addr} {n c : Nat} (h : o.op = .build 27 #[(0, x)]) (hx : ρ x = .slice A n c) (w : World) : (execOp ρ o).run Tryd.prog w = .ok (.value (.agg #[.slice A n c, .bool false])) w := by
  unfold execOp
  simp only [h, List.map_toArray, List.map_cons, List.map_nil, hx]
  kernel_rfl
theorem rn_bL1 {s : Bool} (h : o.op = .build 27 #[(1, x)]) (hx : ρ x = .bool s) (w : World) : (execOp ρ o).run Tryd.prog w = .ok (.value (.agg #[.slice none 0 0, .bool s])) w := by
  unfold execOp
  simp only [h, List.map_toArray, List.map_cons, List.map_nil, hx]
  kernel_rfl
theorem rn_bL01 {A : Option Addr} {n c : Nat} {s : Bool} (h : o.op = .build 27 #[(0, x), (1, y)]) (hx : ρ x = .slice A n c) (hy : ρ y = .bool s) (w : World) : (execOp ρ o).run Tryd.prog w = .ok (.value (.agg #[.slice A n c, .bool s])) w := by
  unfold execOp
  simp only [h, List.map_toArray, List.map_cons, List.map_nil, hx, hy]
  kernel_rfl
theorem rn_faL0 {g off : Nat} {p : Value} (h : o.op = .fieldAddr 27 x 0) (hx : ρ x = .pointer (some ⟨g, off, none⟩)) (hp : .pointer (some ⟨g, off + 0, none⟩) = p) (w : World) : (execOp ρ o).run Tryd.prog w = .ok (.value p) w := by
  subst hp
  unfold execOp
  simp only [h, hx]
  kernel_rfl
theorem rn_faL1 {g off : Nat} {p : Value} (h : o.op = .fieldAddr 27 x 1) (hx : ρ x = .pointer (some ⟨g, off, none⟩)) (hp : .pointer (some ⟨g, off + 1, none⟩) = p) (w : World) : (execOp ρ o).run Tryd.prog w = .ok (.value p) w := by
  subst hp
  unfold execOp
  simp only [h, hx]
  kernel_rfl
theorem rn_ldS {g off : Nat} {t : TypeId} {cs : Array Value} {v : Value} {w : World} (h : o.op = .load 22 x) (hx : ρ x = .pointer (some ⟨g, off, none⟩)) (hB : Blk w g t cs) (hv : cs[off]? = some v) :
    (execOp ρ o).run Tryd.prog w = .ok (.value v) w := by
  unfold execOp
  simp only [h, hx, run_loadS w ((hB.cell off).trans hv), Sem.run_bind, Sem.run_pure, Result.andThen_ok]
theorem rn_ldB {g off : Nat} {t : TypeId} {cs : Array Value} {v : Value} {w : World} (h : o.op = .load 4 x) (hx : ρ x = .pointer (some ⟨g, off, none⟩)) (hB : Blk w g t cs) (hv : cs[off]? = some v) :
    (execOp ρ o).run Tryd.prog w = .ok (.value v) w := by
  unfold execOp
  simp only [h, hx, run_loadB w ((hB.cell off).trans hv), Sem.run_bind, Sem.run_pure, Result.andThen_ok]
theorem rn_eqB {i j b : Bool} (h : o.op = .binOp .eql 4 x y 4) (hx : ρ x = .bool i) (hy : ρ y = .bool j) (hb : (i == j) = b) (w : World) : (execOp ρ o).run Tryd.prog w = .ok (.value (.bool b)) w := by
  subst hb
  obtain ⟨dst, op, ty, pos, after, guard⟩ := o
  simp only at h
  subst h
  go_simp
theorem rn_gt8 {i j : Int} {b : Bool} (h : o.op = .binOp .gtr 5 x y 5) (hx : ρ x = .int .u8 i) (hy : ρ y = .int .u8 j) (hb : decide (j < i) = b) (w : World) : (execOp ρ o).run Tryd.prog w = .ok (.value (.bool b)) w := by
  subst hb
  obtain ⟨dst, op, ty, pos, after, guard⟩ := o
  simp only at h
  subst h
  go_simp
theorem rn_gtu {i j : Int} {b : Bool} (h : o.op = .binOp .gtr 77 x y 77) (hx : ρ x = .int .u64 i) (hy : ρ y = .int .u64 j) (hb : decide (j < i) = b) (w : World) : (execOp ρ o).run Tryd.prog w = .ok (.value (.bool b)) w := by
  subst hb
  obtain ⟨dst, op, ty, pos, after, guard⟩ := o
  simp only at h
  subst h
  go_simp
theorem rn_cv8I {i r : Int} (h : o.op = .convert 5 3 x) (hx : ρ x = .int .u8 i) (hr : IntKind.i64.wrap i = r) (w : World) : (execOp ρ o).run Tryd.prog w = .ok (.value (.int .i64 r)) w := by
  subst hr
  obtain ⟨dst, op, ty, pos, after, guard⟩ := o
  simp only at h
  subst h
  go_simp
theorem rn_cvWu {i r : Int} (h : o.op = .convert 3 77 x) (hx : ρ x = .int .i64 i) (hr : IntKind.u64.wrap i = r) (w : World) : (execOp ρ o).run Tryd.prog w = .ok (.value (.int .u64 r)) w := by
  subst hr
  obtain ⟨dst, op, ty, pos, after, guard⟩ := o
  simp only at h
  subst h
  go_simp
theorem rn_cvuW {i r : Int} (h : o.op = .convert 77 3 x) (hx : ρ x = .int .u64 i) (hr : IntKind.i64.wrap i = r) (w : World) : (execOp ρ o).run Tryd.prog w = .ok (.value (.int .i64 r)) w := by
  subst hr
  obtain ⟨dst, op, ty, pos, after, guard⟩ := o
  simp only at h
  subst h
  go_simp
theorem rn_min {i j r : Int} (h : o.op = .call { callee := .builtin .min, args := #[x, y], argTypes := #[3, 3] }) (hx : ρ x = .int .i64 i) (hy : ρ y = .int .i64 j) (hr : (if j < i then j else i) = r) (w : World) : (execOp ρ o).run Tryd.prog w = .ok (.value (.int .i64 r)) w := by
  subst hr
  obtain ⟨dst, op, ty, pos, after, guard⟩ := o
  simp only at h
  subst h
  go_simp
theorem rn_capC {A : Option Addr} {n c : Nat} (h : o.op = .call { callee := .builtin .cap, args := #[x], argTypes := #[22] }) (hv : ρ x = .slice A n c) (w : World) : (execOp ρ o).run Tryd.prog w = .ok (.value (.int .i64 c)) w := by
  obtain ⟨dst, op, ty, pos, after, guard⟩ := o
  simp only at h
  subst h
  go_simp
theorem szC (w : World) : (sizeOf 60).run Tryd.prog w = .ok 16 w := by
  obtain ⟨i, hi, _, hs, _⟩ := info_parts infoC
  simp [sizeOf, typeInfo, hi, hs]
theorem run_slh {A : Option Addr} {n c k : Nat} (hk : k ≤ c) (w : World) : (Instr.sliceAt 22 (.slice A n c) none (some (.int .i64 k)) none).run Tryd.prog w = .ok (sliced A 0 k c 16) w := by
  have hu : Tryd.prog.underlying 22 = some (.slice (Tryd.prog.elem 22)) := by kernel_rfl
  have he : Tryd.prog.elem 22 = 60 := by kernel_rfl
  rw [run_sliceAt_slice w _ _ _ _ _ hu, run_slice_h w _ A n c hu .i64 k (by omega) (by omega), he, szC]
  simp
theorem run_sll {A : Option Addr} {n c k : Nat} (hk : k ≤ n) (w : World) : (Instr.sliceAt 22 (.slice A n c) (some (.int .i64 k)) none none).run Tryd.prog w = .ok (sliced A k n c 16) w := by
  have hu : Tryd.prog.underlying 22 = some (.slice (Tryd.prog.elem 22)) := by kernel_rfl
  have he : Tryd.prog.elem 22 = 60 := by kernel_rfl
  rw [run_sliceAt_slice w _ _ _ _ _ hu, run_slice_l w _ A n c hu .i64 k (by omega) (by omega), he, szC]
  simp
theorem run_sllh {A : Option Addr} {n c k m : Nat} (hk : k ≤ m) (hm : m ≤ c) (w : World) : (Instr.sliceAt 22 (.slice A n c) (some (.int .i64 k)) (some (.int .i64 m)) none).run Tryd.prog w = .ok (sliced A k m c 16) w := by
  have hu : Tryd.prog.underlying 22 = some (.slice (Tryd.prog.elem 22)) := by kernel_rfl
  have he : Tryd.prog.elem 22 = 60 := by kernel_rfl
  rw [run_sliceAt_slice w _ _ _ _ _ hu, run_slice_lh w _ A n c hu .i64 .i64 k m (by omega) (by omega) (by omega), he, szC]
  simp
theorem rn_slh {A : Option Addr} {n c k : Nat} {v : Value} (h : o.op = .slice 22 x none (some y) none) (hx : ρ x = .slice A n c) (hy : ρ y = .int .i64 k) (hk : k ≤ c) (hv : sliced A 0 k c 16 = v) (w : World) : (execOp ρ o).run Tryd.prog w = .ok (.value v) w := by
  subst hv
  unfold execOp
  simp only [h, hx, Option.map_some, Option.map_none, hy, run_slh hk, Sem.run_bind, Sem.run_pure, Result.andThen_ok]
theorem rn_sll {A : Option Addr} {n c k : Nat} {v : Value} (h : o.op = .slice 22 x (some y) none none) (hx : ρ x = .slice A n c) (hy : ρ y = .int .i64 k) (hk : k ≤ n) (hv : sliced A k n c 16 = v) (w : World) : (execOp ρ o).run Tryd.prog w = .ok (.value v) w := by
  subst hv
  unfold execOp
  simp only [h, hx, Option.map_some, Option.map_none, hy, run_sll hk, Sem.run_bind, Sem.run_pure, Result.andThen_ok]
theorem rn_sllh {z : Operand} {A : Option Addr} {n c k m : Nat} {v : Value} (h : o.op = .slice 22 x (some y) (some z) none) (hx : ρ x = .slice A n c) (hy : ρ y = .int .i64 k) (hz : ρ z = .int .i64 m) (hk : k ≤ m) (hm : m ≤ c) (hv : sliced A k m c 16 = v) (w : World) : (execOp ρ o).run Tryd.prog w = .ok (.value v) w := by
  subst hv
  unfold execOp
  simp only [h, hx, Option.map_some, Option.map_none, hy, hz, run_sllh hk hm, Sem.run_bind, Sem.run_pure, Result.andThen_ok]
theorem rn_bC02 {r d : Int} (h : o.op = .build 60 #[(0, x), (2, y)]) (hx : ρ x = .int .i32 r) (hy : ρ y = .int .i64 d) (w : World) : (execOp ρ o).run Tryd.prog w = .ok (.value (Ce.v ⟨r, 0, 0, 0, d, zeroP⟩)) w := by
  unfold execOp
  simp only [h, List.map_toArray, List.map_cons, List.map_nil, hx, hy]
  kernel_rfl
theorem rn_bC2 {d : Int} (h : o.op = .build 60 #[(2, x)]) (hx : ρ x = .int .i64 d) (w : World) : (execOp ρ o).run Tryd.prog w = .ok (.value (Ce.v ⟨0, 0, 0, 0, d, zeroP⟩)) w := by
  unfold execOp
  simp only [h, List.map_toArray, List.map_cons, List.map_nil, hx]
  kernel_rfl
theorem rn_bC23 {d : Int} {q : Pn} (h : o.op = .build 60 #[(2, x), (3, y)]) (hx : ρ x = .int .i64 d) (hy : ρ y = q.v) (w : World) : (execOp ρ o).run Tryd.prog w = .ok (.value (Ce.v ⟨0, 0, 0, 0, d, q⟩)) w := by
  unfold execOp
  simp only [h, List.map_toArray, List.map_cons, List.map_nil, hx, hy]
  kernel_rfl
theorem rn_bP (h : o.op = .build 58 #[]) (w : World) : (execOp ρ o).run Tryd.prog w = .ok (.value (Pn.v zeroP)) w := by
  unfold execOp
  simp only [h, List.map_toArray, List.map_nil]
  kernel_rfl
theorem rn_bP2 {f : Int} (h : o.op = .build 58 #[(2, x)]) (hx : ρ x = .int .u8 f) (w : World) : (execOp ρ o).run Tryd.prog w = .ok (.value (Pn.v ⟨zeroC, zeroC, f⟩)) w := by
  unfold execOp
  simp only [h, List.map_toArray, List.map_cons, List.map_nil, hx]
  kernel_rfl
theorem rn_isnilC {A : Option Addr} {n c : Nat} {b : Bool} (h : o.op = .binOp .eql 22 x (.const (.slice none 0 0)) 22) (hx : ρ x = .slice A n c) (hc : ∀ v, ρ (.const v) = v) (hb : A.isNone = b) (w : World) : (execOp ρ o).run Tryd.prog w = .ok (.value (.bool b)) w := by
  subst hb
  unfold execOp
  simp only [h, hx, hc]
  cases A <;> kernel_rfl
theorem rn_bs0 (h : o.op = .buildSlice 22 0 #[]) (w : World) : (execOp ρ o).run Tryd.prog w = .ok (.value (.slice (some ⟨w.heap.size, 0, none⟩) 0 0)) (w.alloc (.cells #[] 60)) := by
  have e : (Instr.buildSlice 22 0 #[]).run Tryd.prog w = .ok (.slice (some ⟨w.heap.size, 0, none⟩) 0 0) (w.alloc (.cells #[] 60)) := by kernel_rfl
  unfold execOp
  simp only [h, List.map_toArray, List.map_nil, Sem.run_bind, e, Result.andThen_ok, Sem.run_pure]
end

/-- What a slice holds: the cells l. -/
def SlC (w : World) (v : Value) (l : List Ce) : Prop := ∃ A c b, v = .slice A l.length c ∧ l.length ≤ c ∧ RdC w b A l.length l
section
variable {w w' : World} {v : Value} {l : List Ce} {b n c : Nat} {A : Option Addr}
theorem SlC.new (h : SlC w v l) (hn : New w w') : SlC w' v l := by
  obtain ⟨A, c, b, h1, h2, h3⟩ := h
  exact ⟨A, c, b, h1, h2, h3.new hn⟩
theorem SlC.nil (w : World) : SlC w (.slice none 0 0) [] := ⟨none, 0, 0, rfl, Nat.le_refl _, RdC.nil _ _ _⟩
theorem SlC.own {base : Nat} (h : OwnC w base v n l) : SlC w v l := by
  have hl := own_len (R := rC) h
  subst hl
  obtain ⟨b, A, c, h1, h2, h3⟩ := own_rdg (R := rC) h
  exact ⟨A, c, b, h1, h2, rdc_of h3⟩
theorem SlC.mk (hr : RdC w b A n l) (hc : n ≤ c) : SlC w (.slice A n c) l := by
  obtain rfl := hr.1
  exact ⟨A, c, b, rfl, hc, hr⟩
theorem own_shape {base : Nat} (h : OwnC w base v n l) : ∃ A c, v = .slice A l.length c ∧ OwnC w base (.slice A l.length c) l.length l := by
  have hl := own_len (R := rC) h
  subst hl
  obtain ⟨A, c, rfl, -, -⟩ := own_sliceG h
  exact ⟨A, c, rfl, h⟩
/-- A slice cut. -/
theorem slh_rd {k : Nat} (h : RdC w b A n l) (hk : k ≤ n) : ∃ A', sliced A 0 k c 16 = .slice A' k c ∧ RdC w b A' k (l.take k) := by
  refine ⟨if c = 0 then A else A.map (·.add (0 * 16)), by simp [sliced], by rw [List.length_take, h.1]; omega, fun h0 => ?_⟩
  obtain ⟨o, rfl, hb, hc⟩ := h.2 (by omega)
  have e : (if c = 0 then some (⟨b, o, none⟩ : Addr) else (some ⟨b, o, none⟩ : Option Addr).map (·.add (0 * 16))) = some ⟨b, o, none⟩ := by
    rw [Option.map_some, addr_add]
    simp
  refine ⟨o, e, hb, fun j hj => ?_⟩
  rw [hc j (by omega)]
  have : flatC (l.take k) = (flatC l).take (k * 16) := (flatG_take rC l k).symm
  rw [this, List.getElem?_take, if_pos hj]
theorem sll_rd {k : Nat} (h : RdC w b A n l) (hk : k ≤ n) (hc : n ≤ c) : ∃ A', sliced A k n c 16 = .slice A' (n - k) (c - k) ∧ RdC w b A' (n - k) (l.drop k) := by
  refine ⟨if c = k then A else A.map (·.add (k * 16)), by simp [sliced], by rw [List.length_drop, h.1], fun h0 => ?_⟩
  obtain ⟨o, rfl, hb, hc'⟩ := h.2 (by omega)
  refine ⟨o + k * 16, by rw [if_neg (by omega), Option.map_some, addr_add], hb, fun j hj => ?_⟩
  rw [Nat.add_assoc, hc' (k * 16 + j) (by omega)]
  have : flatC (l.drop k) = (flatC l).drop (k * 16) := (flatG_drop rC l k).symm
  rw [this, List.getElem?_drop]
theorem sllh_rd {k m : Nat} (h : RdC w b A n l) (hk : k ≤ m) (hm : m ≤ n) (hc : n ≤ c) : ∃ A', sliced A k m c 16 = .slice A' (m - k) (c - k) ∧ RdC w b A' (m - k) ((l.drop k).take (m - k)) := by
  obtain ⟨A1, e1, r1⟩ := sll_rd (c := c) h (by omega : k ≤ n) hc
  obtain ⟨A2, e2, r2⟩ := slh_rd (c := c - k) (k := m - k) r1 (by omega)
  refine ⟨A1, ?_, ?_⟩
  · have e3 : A1 = if c = k then A else A.map (·.add (k * 16)) := by simpa [sliced] using e1.symm
    rw [e3]
    simp [sliced]
  · have e3 : A2 = if c - k = 0 then A1 else A1.map (·.add (0 * 16)) := by simpa [sliced] using e2.symm
    refine ⟨r2.1, fun h0 => ?_⟩
    obtain ⟨o, ho, hb, hcl⟩ := r2.2 h0
    obtain ⟨o1, ho1, _⟩ := r1.2 (by omega)
    subst ho1
    rw [Option.map_some, addr_add] at e3
    have e4 : A2 = some ⟨b, o1, none⟩ := by rw [e3]; simp
    rw [e4] at ho
    simp only [Option.some.injEq, Addr.mk.injEq, and_true, true_and] at ho
    subst ho
    exact ⟨o1, rfl, hb, hcl⟩
end
end Go.Proofs.YtjcpdldaimebbaaDoor
namespace Go.Proofs.YtjcpdldaimebbaaDoor
open Go.RowKit

section
variable {ρ : Operand → Value} {o : Oper} {x y : Operand} {w : World}
theorem rx_append {base n m c b : Nat} {v : Value} {A : Option Addr} {l news : List Ce} (hown : OwnC w base v n l) (hr : RdC w b A m news) (h : o.op = .call { callee := .builtin .append, args := #[x, y], argTypes := #[22, 22] })
    (hx : ρ x = v) (hy : ρ y = .slice A m c) (hnm : n + m ≤ 100000000) (hbase : base ≤ w.heap.size) :
    ∃ v' w', (execOp ρ o).run Tryd.prog w = .ok (.value v') w' ∧ OwnC w' base v' (n + m) (l ++ news) ∧ w.grownBy w' v.ownBlock ∧ (v'.ownBlock = v.ownBlock ∨ v'.ownBlock = some w.heap.size) := by
  obtain ⟨v', w', hrun, h2⟩ := run_appendO (R := rC) w base o.type v n l hown b A m c news (of_rdc hr) hnm hbase
  refine ⟨v', w', ?_, h2⟩
  unfold execOp
  simp only [h, resolve, invoke, builtin, Sem.run_bind, Sem.run_pure, Result.andThen_ok, List.map_toArray, List.map_cons, List.map_nil, hx, hy]
  have e : (Builtin.append_ #[22, 22] o.type #[v, .slice A m c]).run Tryd.prog w = .ok v' w' := hrun
  simp only [e, Result.andThen_ok]
theorem made_flat (n : Nat) : (madeCells zeroCe.cs (n * 16)).toList = flatC (List.replicate n zeroCe) := by
  apply List.ext_getElem?
  intro j
  by_cases h : j < n * 16
  · have hi : j / 16 < n := by omega
    have e := flatC_at (List.replicate n zeroCe) (j / 16) (j % 16) (by simpa using hi) (by omega)
    rw [show j / 16 * 16 + j % 16 = j by omega] at e
    rw [e, List.getElem_replicate]
    have hj : j % 16 < 16 := by omega
    have hz : zeroCe.cs.size = 16 := rfl
    rw [Array.getElem?_toList, Array.getElem?_eq_getElem (by rw [size_madeCells]; exact h)]
    simp only [madeCells, Array.getElem_map, Array.getElem_range, hz]
    rw [getElem!_pos zeroCe.cs (j % 16) (by rw [hz]; exact hj)]
    have : zeroCe.ls = zeroCe.cs.toList := rfl
    rw [this, Array.getElem?_toList, Array.getElem?_eq_getElem (by rw [hz]; exact hj)]
  · rw [List.getElem?_eq_none (by rw [Array.length_toList, size_madeCells]; omega), List.getElem?_eq_none (by rw [flatC_len, List.length_replicate]; omega)]
theorem rx_make {base c : Nat} (h : o.op = .makeSlice 22 x y) (hx : ρ x = .int .i64 c) (hy : ρ y = .int .i64 c) (hc : c ≤ 1000000) (hbase : base ≤ w.heap.size) :
    ∃ v' w', (execOp ρ o).run Tryd.prog w = .ok (.value v') w' ∧ v' = .slice (some ⟨w.heap.size, 0, none⟩) c c ∧ OwnC w' base (.slice (some ⟨w.heap.size, 0, none⟩) c c) c (List.replicate c zeroCe) ∧ New w w' := by
  obtain ⟨i, hi, hz, hsize, hby⟩ := info_parts infoC
  have hrun := run_make (P := Tryd.prog) w 22 60 i _ Tryd.underlying22 hi hz .i64 .i64 (c : Int) (c : Int) (by omega) (by omega) (by rw [hby]; omega) (by omega)
  rw [Int.toNat_natCast, hsize] at hrun
  refine ⟨_, w.alloc (.cells (madeCells zeroCe.cs (c * 16)) 60), ?_, rfl, ?_, New.alloc _⟩
  · unfold execOp
    simp only [h, hx, hy, Sem.run_bind, hrun, Result.andThen_ok, Sem.run_pure]
    rfl
  · refine ⟨by rw [flatG_len, List.length_replicate]; rfl, .inr ⟨w.heap.size, c, madeCells zeroCe.cs (c * 16), rfl, hbase, Blk.new w _ _, Nat.le_refl _, by unfold maxLen; omega, size_madeCells _ _, ?_⟩⟩
    rw [made_flat, List.take_of_length_le (by rw [flatC_len, List.length_replicate]; exact Nat.le_refl _)]
    rfl
theorem zeroCells_size (z : Array Value) (n : Nat) : (Builtin.zeroCells z n).size = n * z.size := by simp [Builtin.zeroCells]
set_option maxRecDepth 8000 in
theorem rx_appz {base n : Nat} (h : o.op = .call { callee := .builtin .append, args := #[x, y], argTypes := #[22, 3] }) (hx : ρ x = .slice none 0 0) (hy : ρ y = .int .i64 n) (h0 : 0 < n) (hn : n ≤ 1000000) (hbase : base ≤ w.heap.size) :
    ∃ v' w', (execOp ρ o).run Tryd.prog w = .ok (.value v') w' ∧ ∃ g cap, v' = .slice (some ⟨g, 0, none⟩) n cap ∧ OwnC w' base (.slice (some ⟨g, 0, none⟩) 0 cap) 0 [] ∧ New w w' ∧ 0 < cap := by
  obtain ⟨i, hi, hz, hsize, hby⟩ := info_parts infoC
  have hrun := Lib.run_append_nil_zeros (P := Tryd.prog) w 22 3 o.type 60 i _ .i64 .i64 Tryd.underlying22 Tryd.underlying3 hi hz n h0 (by omega) (by omega) (by rw [hby]; omega)
  have hge := grownCap_ge w n 0 60
  refine ⟨.slice (some ⟨w.heap.size, 0, none⟩) n (grownCap w n 0 60), w.drew.alloc (.cells (Builtin.zeroCells zeroCe.v.cells n ++ Builtin.zeroCells zeroCe.v.cells (grownCap w n 0 60 - n)) 60), ?_, w.heap.size, grownCap w n 0 60, rfl, ?_, ((Fr.refl _ w).drew).alloc _, Nat.lt_of_lt_of_le h0 hge⟩
  · unfold execOp
    simp only [h, resolve, invoke, builtin, Sem.run_bind, Sem.run_pure, Result.andThen_ok, List.map_toArray, List.map_cons, List.map_nil, hx, hy, hrun]
  · refine ⟨rfl, .inr ⟨w.heap.size, _, _, rfl, hbase, Blk.new w.drew _ _, Nat.zero_le _, grownCap_le_maxLen _ _ _ _ (by unfold maxLen; omega), ?_, by simp [flatG]⟩⟩
    have hz16 : zeroCe.v.cells.size = 16 := rfl
    rw [Array.size_append, zeroCells_size, zeroCells_size, hz16, ← Nat.add_mul]
    congr 1
    omega
set_option maxRecDepth 8000 in
theorem rx_copy {base g N cap off dn dc b sn sc : Nat} {D S : Option Addr} {L l : List Ce} (hown : OwnC w base (.slice (some ⟨g, 0, none⟩) N cap) N L) (hr : RdC w b S sn l)
    (h : o.op = .call { callee := .builtin .copy, args := #[x, y], argTypes := #[22, 22] }) (hx : ρ x = .slice D dn dc) (hy : ρ y = .slice S sn sc)
    (hD : 0 < dn → D = some ⟨g, off * 16, none⟩) (hoff : off + dn ≤ N) :
    ∃ v' w', (execOp ρ o).run Tryd.prog w = .ok (.value v') w' ∧ v' = .int .i64 (min sn dn : Nat) ∧ OwnC w' base (.slice (some ⟨g, 0, none⟩) N cap) N (L.take off ++ l.take (min sn dn) ++ L.drop (off + min sn dn)) ∧ Fr (fun k => k = g) w w' := by
  obtain ⟨i, hi, hz, hsize, hby⟩ := info_parts infoC
  have hl := own_len (R := rC) hown
  by_cases h0 : min sn dn = 0
  · refine ⟨_, w, ?_, rfl, ?_, Fr.refl _ _⟩
    · have hm : Nat.min sn dn = 0 := h0
      have hf : (Builtin.firstCells 16 0 (.slice S sn sc)).run Tryd.prog w = .ok #[] w := by
        cases S with
        | none => exact run_firstCells_none w 16 0 sn sc
        | some a => exact run_firstCells_some w 16 0 a sn sc [] (by simp) (fun j v hv => by simp at hv)
      have hrun : (Builtin.copy_ #[22, 22] o.type #[.slice D dn dc, .slice S sn sc]).run Tryd.prog w = .ok (goInt 0) w := by
        cases D with
        | none => simp [Builtin.copy_, run_underlying Tryd.underlying22, Builtin.lenOf, sizeOf, typeInfo, hi, hsize, hm, hf]
        | some a => simp [Builtin.copy_, run_underlying Tryd.underlying22, Builtin.lenOf, sizeOf, typeInfo, hi, hsize, hm, hf, storeCells]
      unfold execOp
      simp only [h, resolve, invoke, builtin, Sem.run_bind, Sem.run_pure, Result.andThen_ok, List.map_toArray, List.map_cons, List.map_nil, hx, hy, hrun, h0]
      rfl
    · rw [h0, List.take_zero, List.append_nil, Nat.add_zero, List.take_append_drop]
      exact hown
  · obtain ⟨os, rfl, hbs, hcs⟩ := hr.2 (by omega)
    obtain rfl := hD (by omega)
    rcases hown.2 with ⟨h', _⟩ | ⟨g', cap', cur, h', hb, hg, hnc, hcm, hcz, htake⟩
    · simp at h'
    simp only [Value.slice.injEq, Option.some.injEq, Addr.mk.injEq, and_true, true_and] at h'
    obtain ⟨rfl, rfl⟩ := h'
    have hle : N * 16 ≤ cap * 16 := Nat.mul_le_mul_right _ hnc
    have hmin : min sn dn ≤ dn := Nat.min_le_right _ _
    have hmin2 : min sn dn ≤ sn := Nat.min_le_left _ _
    obtain ⟨m, hm⟩ : ∃ m, min sn dn = m := ⟨_, rfl⟩
    rw [hm] at hmin hmin2 h0 ⊢
    have hcl : (flatC (l.take m)).length = m * 16 := by rw [flatC_len, List.length_take, hr.1]; congr 1; omega
    have hfl : flatC (l.take m) = (flatC l).take (m * 16) := (flatG_take rC l m).symm
    have hsz : rC.sz = 16 := rfl
    have hcs' : cur.size = cap * 16 := hcz
    have hf : (Builtin.firstCells 16 m (.slice (some ⟨b, os, none⟩) sn sc)).run Tryd.prog w = .ok (flatC (l.take m)).toArray w := run_firstCells_some w 16 m _ sn sc (flatC (l.take m)) hcl (fun j v hj => by
      have hj' : j < m * 16 := by have := (List.getElem?_eq_some_iff.1 hj).1; omega
      rw [addr_add, hcs j (by omega)]
      rw [hfl, List.getElem?_take, if_pos hj'] at hj
      exact hj)
    have hst := run_storeCells_at Tryd.prog g (off * 16) 60 (flatC (l.take m)) 0 cur w hg (by rw [hcl]; omega) (one_ls _)
    simp only [Nat.add_zero] at hst
    have hrun : (Builtin.copy_ #[22, 22] o.type #[.slice (some ⟨g, off * 16, none⟩) dn dc, .slice (some ⟨b, os, none⟩) sn sc]).run Tryd.prog w = .ok (goInt m) (w.setRow g (cur.toList.take (off * 16) ++ flatC (l.take m) ++ cur.toList.drop (off * 16 + (flatC (l.take m)).length)).toArray) := by
      have hm' : Nat.min sn dn = m := hm
      simp [Builtin.copy_, run_underlying Tryd.underlying22, Builtin.lenOf, sizeOf, typeInfo, hi, hsize, hm', hf, hst]
    refine ⟨_, w.setRow g (cur.toList.take (off * 16) ++ flatC (l.take m) ++ cur.toList.drop (off * 16 + (flatC (l.take m)).length)).toArray, ?_, rfl, ?_, fr_setRow w g _⟩
    · unfold execOp
      simp only [h, resolve, invoke, builtin, Sem.run_bind, Sem.run_pure, Result.andThen_ok, List.map_toArray, List.map_cons, List.map_nil, hx, hy, hrun]
      rfl
    · refine ⟨by rw [flatG_len]; simp only [List.length_append, List.length_take, List.length_drop, hr.1]; congr 1; omega, .inr ⟨g, cap, _, rfl, hb, setRow_heap w g cur _ _ _ hg, hnc, hcm, ?_, ?_⟩⟩
      · simp only [List.size_toArray, List.length_append, List.length_take, List.length_drop, Array.length_toList, hcl, hcs']
        omega
      · have e1 : flatG rC (L.take off ++ l.take m ++ L.drop (off + m)) = (flatG rC L).take (off * 16) ++ flatC (l.take m) ++ (flatG rC L).drop ((off + m) * 16) := by
          rw [flatG_append, flatG_append, ← flatG_take, ← flatG_drop]
          rfl
        rw [e1, ← htake, hcl, ← Nat.add_mul, List.take_take, Nat.min_eq_left (by omega), List.drop_take]
        show List.take (N * 16) (cur.toList.take (off * 16) ++ flatC (l.take m) ++ cur.toList.drop ((off + m) * 16)) = _
        have e2 : (cur.toList.take (off * 16) ++ flatC (l.take m)).length = (off + m) * 16 := by
          rw [List.length_append, List.length_take, hcl, Array.length_toList, hcs']; omega
        rw [List.take_append, e2, List.take_of_length_le (by omega)]
end
theorem Hp.ownC {w0 w w' : World} {H : List Bk} {base n : Nat} {v : Value} {l : List Ce} (h : Hp w0 H w) (hown : OwnC w base v n l) (hg : w.grownBy w' v.ownBlock) (hb : w0.heap.size ≤ base) (hty : H.all (fun b => !(b.t == 60)) = true) : Hp w0 H w' := by
  refine h.own (S := fun k => v.ownBlock = some k) (Fr.grown (Fr.refl _ _) hg (fun k hk => .inl hk)) (fun k hk => Nat.le_trans hb (own_blk hown k hk)) (fun b hB hk => ?_)
  have := List.all_eq_true.1 hty b hB
  exact own_far hown (h.bl b hB).2 (fun e => by rw [← e] at this; simp at this) hk
theorem Hp.ownF {w0 w w' : World} {H : List Bk} {base n g N cap : Nat} {l : List Ce} (h : Hp w0 H w) (hown : OwnC w base (.slice (some ⟨g, 0, none⟩) N cap) n l) (hf : Fr (fun k => k = g) w w') (hb : w0.heap.size ≤ base) (hty : H.all (fun b => !(b.t == 60)) = true) : Hp w0 H w' := by
  refine h.own hf (fun k hk => Nat.le_trans hb (own_blk hown k (by rw [hk]; rfl))) (fun b hB hk => ?_)
  have := List.all_eq_true.1 hty b hB
  exact own_far hown (h.bl b hB).2 (fun e => by rw [← e] at this; simp at this) (by rw [hk]; rfl)
section
variable {P : Program} {md : Region.Mode} {ops : Array Oper} {Q : Exit → Act → World → Prop} {a : Act} {w : World} {S : World → Prop} {fuel : Nat} {listed : Array Bool} {N k : Nat} {F : List (Nat × Value)}
/-- An operation that alone may come up. -/
theorem hX {i : Nat} {o : Oper} {v : Value} {w' : World} (he : Env N F a) (hr : Region.ready md ops listed = [i]) (hoi : ops[i]? = some o) (hd : o.dst = some k) (hk : Nat.blt k N = true) (hw : Region.wanted o (yielded ops a.tmps) = true)
    (hrun : (execOp a.eval o).run P w = .ok (.value v) w') (hS : S w') (next : ∀ a', Env N ((k, v) :: F) a' → wpAnyH P md ops Q S fuel (listed.setIfInBounds i true) a' w') : wpAnyH P md ops Q S (fuel + 1) listed a w :=
  allH hr hoi hw (fun _ hK => wp_valw hrun (hK _ _ hS (by rw [hd]; exact next _ (he.put hk v))))
/-- The same of which something is known. -/
theorem hEx {i : Nat} {o : Oper} {R : Value → World → Prop} (he : Env N F a) (hr : Region.ready md ops listed = [i]) (hoi : ops[i]? = some o) (hd : o.dst = some k) (hk : Nat.blt k N = true) (hw : Region.wanted o (yielded ops a.tmps) = true)
    (hrun : ∃ v' w', (execOp a.eval o).run P w = .ok (.value v') w' ∧ R v' w') (next : ∀ v' w', R v' w' → S w' ∧ ∀ a', Env N ((k, v') :: F) a' → wpAnyH P md ops Q S fuel (listed.setIfInBounds i true) a' w') : wpAnyH P md ops Q S (fuel + 1) listed a w := by
  obtain ⟨v', w', h1, h2⟩ := hrun
  obtain ⟨h3, h4⟩ := next v' w' h2
  exact hX he hr hoi hd hk hw h1 h3 h4
theorem lEx {rest : List Oper} {o : Oper} {R : Value → World → Prop} (he : Env N F a) (hd : o.dst = some k) (hk : Nat.blt k N = true) (hw : Region.wanted o (yielded ops a.tmps) = true)
    (hrun : ∃ v' w', (execOp a.eval o).run P w = .ok (.value v') w' ∧ R v' w') (next : ∀ v' w', R v' w' → ∀ a', Env N ((k, v') :: F) a' → wpList P ops Q rest a' w') : wpList P ops Q (o :: rest) a w := by
  obtain ⟨v', w', h1, h2⟩ := hrun
  exact lV v' he hd hk hw h1 (next v' w' h2)
theorem wp_scope_loop {c : Code} (h : c.wp P (Exit.noGoto Q) a w) : (Code.scope c).wp P Q a w := wp_scope_straight h
end
section
variable {ops : Array Oper} {Q : Exit → Act → World → Prop} {a : Act} {w w0 : World} {rest : List Oper} {o : Oper} {N k : Nat} {F : List (Nat × Value)} {H : List Bk}
/-- A store into a block of the call's own; no other block turns. -/
theorem lSetF (i : Nat) {off : Nat} {b : Bk} (news : Array Value) {v : Value} {cs : Array Value} {ty : TypeId} {x y : Operand} (he : Env N F a) (hH : Hp w0 H w) (hd : o.dst = none) (hw : Region.wanted o (yielded ops a.tmps) = true)
    (ho : o.op = .store ty x y) (hb : H[i]? = some b) (hx : evO F x = some (.pointer (some ⟨b.p, off, none⟩))) (hy : evO F y = some v) (hv : v.cells = news)
    (hi : (Tryd.prog.info? ty).map (·.size) = some news.size) (hfit : Nat.ble (off + news.size) b.cs.size = true) (h1 : oneAll news = true) (hcs : lay b.cs off news = cs)
    (next : ∀ w' a', Hp w0 (H.set i ⟨b.p, b.t, cs⟩) w' → Fr (fun k => k = b.p) w w' → Env N F a' → wpList Tryd.prog ops Q rest a' w') : wpList Tryd.prog ops Q (o :: rest) a w :=
  wpList_step fun K hK => by
    rw [if_pos hw]
    exact storeV_does ho (he.op hx) (he.op hy) hv (hH.at hb) hi (Nat.le_of_ble_eq_true hfit) (oneAll_mem h1) (fun w' hB hf _ => hK _ _ (by rw [hd]; exact next _ _ (hH.set hb (hcs ▸ hB) hf) hf (he.put0 _)))
end
/-- A loop whose rounds are gone through one by one. -/
theorem round_one {P : Program} {Q : Exit → Act → World → Prop} {a : Act} {w : World} {c : Code} {n : Nat} (h : c.wp P (Exit.then (Code.rounds P c Q n) Q) a w) : Code.rounds P c Q (n + 1) a w := h
end Go.Proofs.YtjcpdldaimebbaaDoor
namespace Go.Proofs.YtjcpdldaimebbaaDoor
open Go.RowKit

/-- What is returned is a row of the call's own: these cells; a line of them; a line and an error. -/
def RowSaid (L : List Ce) (w : World) (e : Ending) (w' : World) : Prop := (∃ A c, e = .returned (.slice A L.length c) ∧ OwnC w' w.heap.size (.slice A L.length c) L.length L) ∧ New w w'
def LnSaid (L : List Ce) (so : Bool) (w : World) (e : Ending) (w' : World) : Prop := (∃ A c, e = .returned (.agg #[.slice A L.length c, .bool so]) ∧ OwnC w' w.heap.size (.slice A L.length c) L.length L) ∧ New w w'
def LeSaid (r : Lr) (w : World) (e : Ending) (w' : World) : Prop := (∃ A c, e = .returned (.tuple #[.agg #[.slice A r.L.length c, .bool r.s], .int .i64 r.e]) ∧ OwnC w' w.heap.size (.slice A r.L.length c) r.L.length r.L) ∧ New w w'
theorem own_as {w : World} {base n : Nat} {v : Value} {l m : List Ce} (h : OwnC w base v n l) (e : l = m) : ∃ A c, v = .slice A m.length c ∧ OwnC w base (.slice A m.length c) m.length m := by
  subst e
  exact own_shape h
theorem row_said {w w' : World} {v : Value} {n : Nat} {l m : List Ce} (h : OwnC w' w.heap.size v n l) (e : l = m) (hn : New w w') : RowSaid m w (.returned v) w' := by
  obtain ⟨A, c, rfl, ho⟩ := own_as h e
  exact ⟨⟨A, c, rfl, ho⟩, hn⟩
theorem own_nil (w : World) (base : Nat) : OwnC w base (.slice none 0 0) 0 [] := World.ownsRow_nil _ _ _ _
section
variable {ρ : Operand → Value} {o : Oper} {x y : Operand}
theorem rn_idxS {p o0 n c i : Nat} (h : o.op = .indexAddr 80 x y) (hx : ρ x = .slice (some ⟨p, o0, none⟩) n c) (hy : ρ y = .int .i64 i) (hi : i < n) (w : World) : (execOp ρ o).run Tryd.prog w = .ok (.value (.pointer (some ⟨p, o0 + i, none⟩))) w := by
  obtain ⟨dst, op, ty, pos, after, guard⟩ := o
  simp only at h
  subst h
  go_simp
theorem rn_lenS3 {A : Option Addr} {n c : Nat} (h : o.op = .call { callee := .builtin .len, args := #[x], argTypes := #[80] }) (hv : ρ x = .slice A n c) (w : World) : (execOp ρ o).run Tryd.prog w = .ok (.value (.int .i64 n)) w := by
  obtain ⟨dst, op, ty, pos, after, guard⟩ := o
  simp only at h
  subst h
  go_simp
end

set_option linter.unusedSimpArgs false in
set_option maxRecDepth 100000 in
set_option maxHeartbeats 1600000 in
theorem CloneC_any (l : List Ce) (n b cap : Nat) (A : Option Addr) (w : World) (hr : RdC w b A n l) (hn : n ≤ 1000000) :
    Calls Tryd.prog 47 #[.slice A n cap] w (RowSaid l w) := by
  refine calls_args (vl := [Value.slice A n cap]) 8 Tryd.func47 rfl Tryd.ntmps47 (by kernel_rfl) (fun a he => ?_)
  have he0 : Env 8 [(0, Value.slice A n cap)] a := he
  clear he
  have hH := Hp.start w
  refine wp_seq ?_
  refine wp_region_lit ?_
  refine lV (Value.slice none 0 0) he0 rfl rfl (wanted_plain rfl _) (rn_asg rfl (he0.op rfl) w) ?_
  intro a1 he1
  clear he0 a
  refine wpList_nil ?_
  refine then_ok ?_
  cases A with
  | none =>
    refine wp_seq ?_
    refine wp_seq ?_
    refine wp_region_lit ?_
    refine lV (Value.slice none n cap) he1 rfl rfl (wanted_plain rfl _) (rn_mv rfl (he1.op rfl) w) ?_
    intro a2 he2
    clear he1 a1
    refine lV (Value.bool true) he2 rfl rfl (wanted_plain rfl _) (rn_isnilC (A := none) rfl (he2.op rfl) (fun _ => rfl) rfl w) ?_
    intro a3 he3
    clear he2 a2
    refine wpList_nil ?_
    refine then_ok ?_
    refine wp_cond_true (he3.op rfl) ?_
    obtain rfl : n = 0 := Nat.eq_zero_of_not_pos (fun h => by obtain ⟨o, ho, _⟩ := hr.2 h; cases ho)
    obtain rfl : l = [] := List.eq_nil_of_length_eq_zero hr.1
    refine wp_seq ?_
    refine wp_region_lit ?_
    refine lV (Value.slice none 0 0) he3 rfl rfl (wanted_plain rfl _) (rn_asg rfl (he3.op rfl) w) ?_
    intro a4 he4
    clear he3 a3
    refine wpList_nil ?_
    refine then_ok ?_
    refine wp_ret ?_
    try simp only [Exit.then, Exit.inBlock]
    exact ret_env rfl he4 rfl (row_said (own_nil _ _) rfl hH.new)
  | some ad =>
    refine wp_seq ?_
    refine wp_seq ?_
    refine wp_region_lit ?_
    refine lV (Value.slice (some ad) n cap) he1 rfl rfl (wanted_plain rfl _) (rn_mv rfl (he1.op rfl) w) ?_
    intro a5 he5
    clear he1 a1
    refine lV (Value.bool false) he5 rfl rfl (wanted_plain rfl _) (rn_isnilC (A := some ad) rfl (he5.op rfl) (fun _ => rfl) rfl w) ?_
    intro a6 he6
    clear he5 a5
    refine wpList_nil ?_
    refine then_ok ?_
    refine wp_cond_false (he6.op rfl) ?_
    refine wp_skip ?_
    refine then_ok ?_
    refine wp_seq ?_
    refine wp_region_lit ?_
    refine lNew (fun p => .slice (some ⟨p, 0, none⟩) 0 0) he6 hH rfl rfl (wanted_plain rfl _) (rn_bs0 rfl w) ?_
    intro pn wn a8 hn_ hHn he8
    clear he6 a6 hH
    refine lV (Value.slice (some ad) n cap) he8 rfl rfl (wanted_plain rfl _) (rn_mv rfl (he8.op rfl) wn) ?_
    intro a9 he9
    clear he8 a8
    have hown : OwnC wn w.heap.size (.slice (some ⟨pn, 0, none⟩) 0 0) 0 [] := ⟨rfl, .inr ⟨pn, 0, #[], rfl, hHn.lo (i := 0) rfl, hHn.at (i := 0) rfl, Nat.le_refl _, Nat.zero_le _, rfl, rfl⟩⟩
    have hHd := hHn.tail rfl
    clear hHn
    refine lEx he9 rfl rfl (wanted_plain rfl _) (rx_append hown (hr.new hHd.new) rfl (he9.op rfl) (he9.op rfl) (by omega) hHd.new.size) ?_
    rintro vx wx ⟨hox, hgx, horx⟩
    have hHx := hHd.ownC hown hgx (Nat.le_refl _) (by kernel_rfl)
    intro a10 he10
    clear he9 a9
    refine lV (vx) he10 rfl rfl (wanted_plain rfl _) (rn_asg rfl (he10.op rfl) wx) ?_
    intro a11 he11
    clear he10 a10
    refine wpList_nil ?_
    refine then_ok ?_
    refine wp_ret ?_
    try simp only [Exit.then, Exit.inBlock]
    exact ret_env rfl he11 rfl (row_said hox (List.nil_append _) hHx.new)

set_option linter.unusedSimpArgs false in
set_option maxRecDepth 100000 in
set_option maxHeartbeats 1600000 in
theorem EqualC_any (la lb : List Ce) (na nb ba bb ca cb : Nat) (A B : Option Addr) (w : World) (ha : RdC w ba A na la) (hb : RdC w bb B nb lb) (la1 : na ≤ 1000000) (lb1 : nb ≤ 1000000) :
    Calls Tryd.prog 46 #[.slice A na ca, .slice B nb cb] w fun e w' => e = .returned (.bool (decide (la = lb))) ∧ New w w' := by
  have l1 := ha.1
  have l2 := hb.1
  refine calls_args (vl := [Value.slice A na ca, Value.slice B nb cb]) 26 Tryd.func46 rfl Tryd.ntmps46 (by kernel_rfl) (fun a he => ?_)
  have he0 : Env 26 [(0, Value.slice A na ca), (1, Value.slice B nb cb)] a := he
  clear he
  have hH := Hp.start w
  refine wp_seq ?_
  refine wp_region_lit ?_
  refine lV (Value.bool false) he0 rfl rfl (wanted_plain rfl _) (rn_asg rfl (he0.op rfl) w) ?_
  intro a1 he1
  clear he0 a
  refine wpList_nil ?_
  refine then_ok ?_
  by_cases hn : na = nb
  · skip
    subst hn
    refine wp_seq ?_
    refine wp_seq ?_
    refine wp_region_lit ?_
    refine lV (Value.slice A na ca) he1 rfl rfl (wanted_plain rfl _) (rn_mv rfl (he1.op rfl) w) ?_
    intro a2 he2
    clear he1 a1
    refine lV (Value.int .i64 (na : Nat)) he2 rfl rfl (wanted_plain rfl _) (rn_lenC rfl (he2.op rfl) w) ?_
    intro a3 he3
    clear he2 a2
    refine lV (Value.slice B na cb) he3 rfl rfl (wanted_plain rfl _) (rn_mv rfl (he3.op rfl) w) ?_
    intro a4 he4
    clear he3 a3
    refine lV (Value.int .i64 (na : Nat)) he4 rfl rfl (wanted_plain rfl _) (rn_lenC rfl (he4.op rfl) w) ?_
    intro a5 he5
    clear he4 a4
    refine lV (Value.bool false) he5 rfl rfl (wanted_plain rfl _) (rn_neI rfl (he5.op rfl) (he5.op rfl) (by simp) w) ?_
    intro a6 he6
    clear he5 a5
    refine wpList_nil ?_
    refine then_ok ?_
    refine wp_cond_false (he6.op rfl) ?_
    refine wp_skip ?_
    refine then_ok ?_
    refine wp_seq ?_
    refine wp_seq ?_
    refine wp_region_lit ?_
    refine lV (Value.slice A na ca) he6 rfl rfl (wanted_plain rfl _) (rn_mv rfl (he6.op rfl) w) ?_
    intro a7 he7
    clear he6 a6
    refine lV (Value.int .i64 (na : Nat)) he7 rfl rfl (wanted_plain rfl _) (rn_lenC rfl (he7.op rfl) w) ?_
    intro a8 he8
    clear he7 a7
    refine lV (Value.int .i64 0) he8 rfl rfl (wanted_plain rfl _) (rn_mv rfl (he8.op rfl) w) ?_
    intro a9 he9
    clear he8 a8
    refine wpList_nil ?_
    refine then_ok ?_
    refine wp_block ?_
    refine loop_nat (fun q a w' => ∃ (k : Nat), q = na - k ∧ k ≤ na ∧ Env 26 [(0, Value.slice A na ca), (1, Value.slice B na cb), (12, Value.int .i64 (na : Nat)), (13, Value.int .i64 (k : Int))] a ∧ Hp w [] w' ∧ la.take k = lb.take k) na ⟨0, by omega, by omega, he9.mem ⟨rfl, rfl, rfl, rfl, trivial⟩, hH, rfl⟩ ?_
    clear he9 hH
    rintro q a10 w10 ⟨k, rfl, hk, he10, hH10, ht⟩
    as_aux_lemma =>
      by_cases hkn : k < na
      · skip
        refine wp_seq ?_
        refine wp_region_lit ?_
        refine lV (Value.bool true) he10 rfl rfl (wanted_plain rfl _) (rn_lss rfl (he10.op rfl) (he10.op rfl) (decide_eq_true (by omega)) w10) ?_
        intro a11 he11
        clear he10 a10
        refine wpList_nil ?_
        refine then_ok ?_
        refine wp_seq ?_
        refine wp_cond_true (he11.op rfl) ?_
        refine wp_skip ?_
        refine then_ok ?_
        obtain ⟨oa, rfl⟩ := ha.base (by omega)
        obtain ⟨ob, rfl⟩ := hb.base (by omega)
        obtain ⟨x, hx⟩ : ∃ c, la[k]? = some c := ⟨_, List.getElem?_eq_getElem (by have := ha.1; omega)⟩
        obtain ⟨y, hy⟩ : ∃ c, lb[k]? = some c := ⟨_, List.getElem?_eq_getElem (by have := hb.1; omega)⟩
        obtain ⟨c, hc⟩ : ∃ c, (!decide (x = y)) = c := ⟨_, rfl⟩
        refine wp_seq ?_
        refine wp_block ?_
        refine wp_seq ?_
        refine wp_region_lit ?_
        refine lV (Value.int .i64 (k : Int)) he11 rfl rfl (wanted_plain rfl _) (rn_mv rfl (he11.op rfl) w10) ?_
        intro a12 he12
        clear he11 a11
        refine lV (Value.int .i64 (k : Int)) he12 rfl rfl (wanted_plain rfl _) (rn_asg rfl (he12.op rfl) w10) ?_
        intro a13 he13
        clear he12 a12
        refine wpList_nil ?_
        refine then_ok ?_
        refine wp_seq ?_
        refine wp_region_held_drew (S := Hp w []) (by kernel_rfl) (hH10.drew) (fun _ => ?_)
        have hn : New w10 (World.drew w10) := (Fr.refl _ _).drew
        clear hn
        have hH14 := hH10.drew
        clear hH10
        generalize World.drew w10 = w14 at *
        refine hV (fuel := 8) (i := 0) (Value.slice (some ⟨ba, oa, none⟩) na ca) he13 rfl rfl rfl (by kernel_rfl) (by kernel_rfl) (by kernel_rfl) (fun _ _ _ h => h) (wanted_plain rfl _) (fun w' _ => rn_mv rfl (he13.op rfl) w') hH14 ?_
        intro a15 he15
        clear he13 a13
        refine hV (fuel := 7) (i := 1) (Value.int .i64 (k : Int)) he15 rfl rfl rfl (by kernel_rfl) (by kernel_rfl) (by kernel_rfl) (fun _ _ _ h => h) (wanted_plain rfl _) (fun w' _ => rn_mv rfl (he15.op rfl) w') hH14 ?_
        intro a16 he16
        clear he15 a15
        refine hV (fuel := 6) (i := 2) (Value.pointer (some ⟨ba, oa + k * 16, none⟩)) he16 rfl rfl rfl (by kernel_rfl) (by kernel_rfl) (by kernel_rfl) (fun _ _ _ h => h) (wanted_plain rfl _) (fun w' _ => rn_idx (i := k) rfl (he16.op rfl) (he16.op rfl) hkn (by rw [addr_add]) w') hH14 ?_
        intro a17 he17
        clear he16 a16
        refine hV (fuel := 5) (i := 3) (Ce.v x) he17 rfl rfl rfl (by kernel_rfl) (by kernel_rfl) (by kernel_rfl) (fun _ _ _ h => h) (wanted_plain rfl _) (fun w' hw' => rn_loadM (i := k) rfl (he17.op rfl) (ha.new hw'.new) hkn rfl hx) hH14 ?_
        intro a18 he18
        clear he17 a17
        refine hV (fuel := 4) (i := 4) (Value.slice (some ⟨bb, ob, none⟩) na cb) he18 rfl rfl rfl (by kernel_rfl) (by kernel_rfl) (by kernel_rfl) (fun _ _ _ h => h) (wanted_plain rfl _) (fun w' _ => rn_mv rfl (he18.op rfl) w') hH14 ?_
        intro a19 he19
        clear he18 a18
        refine hV (fuel := 3) (i := 5) (Value.int .i64 (k : Int)) he19 rfl rfl rfl (by kernel_rfl) (by kernel_rfl) (by kernel_rfl) (fun _ _ _ h => h) (wanted_plain rfl _) (fun w' _ => rn_mv rfl (he19.op rfl) w') hH14 ?_
        intro a20 he20
        clear he19 a19
        refine hV (fuel := 2) (i := 6) (Value.pointer (some ⟨bb, ob + k * 16, none⟩)) he20 rfl rfl rfl (by kernel_rfl) (by kernel_rfl) (by kernel_rfl) (fun _ _ _ h => h) (wanted_plain rfl _) (fun w' _ => rn_idx (i := k) rfl (he20.op rfl) (he20.op rfl) hkn (by rw [addr_add]) w') hH14 ?_
        intro a21 he21
        clear he20 a20
        refine hV (fuel := 1) (i := 7) (Ce.v y) he21 rfl rfl rfl (by kernel_rfl) (by kernel_rfl) (by kernel_rfl) (fun _ _ _ h => h) (wanted_plain rfl _) (fun w' hw' => rn_loadM (i := k) rfl (he21.op rfl) (hb.new hw'.new) hkn rfl hy) hH14 ?_
        intro a22 he22
        clear he21 a21
        refine hV (fuel := 0) (i := 8) (Value.bool c) he22 rfl rfl rfl (by kernel_rfl) (by kernel_rfl) (by kernel_rfl) (fun _ _ _ h => h) (wanted_plain rfl _) (fun w' _ => rn_neC rfl (he22.op rfl) (he22.op rfl) hc w') hH14 ?_
        intro a23 he23
        clear he22 a22
        refine wpAnyH_done (by kernel_rfl) ?_ _
        refine then_ok ?_
        cases c with
        | true =>
          refine wp_cond_true (he23.op rfl) ?_
          refine wp_seq ?_
          refine wp_region_lit ?_
          refine lV (Value.bool false) he23 rfl rfl (wanted_plain rfl _) (rn_asg rfl (he23.op rfl) w14) ?_
          intro a24 he24
          clear he23 a23
          refine wpList_nil ?_
          refine then_ok ?_
          have hne : la ≠ lb := fun e => by subst e; rw [hx] at hy; simp only [Option.some.injEq] at hy; simp [hy] at hc
          refine wp_ret ?_
          try simp only [Exit.then, Exit.inBlock]
          exact ret_env rfl he24 rfl ⟨by rw [decide_eq_false hne], hH14.new⟩
        | false =>
          refine wp_cond_false (he23.op rfl) ?_
          refine wp_skip ?_
          refine block_ok ?_
          refine then_ok ?_
          refine wp_region_lit ?_
          refine lV (Value.int .i64 ((k + 1 : Nat) : Int)) he23 rfl rfl (wanted_plain rfl _) (rn_add1 rfl (he23.op rfl) (he23.op rfl) (by rw [IntWalk.i64_in _ ⟨by omega, by omega⟩]; rfl) w14) ?_
          intro a25 he25
          clear he23 a23
          refine lV (Value.int .i64 ((k + 1 : Nat) : Int)) he25 rfl rfl (wanted_plain rfl _) (rn_mv rfl (he25.op rfl) w14) ?_
          intro a26 he26
          clear he25 a25
          refine wpList_nil ?_
          refine then_ok ?_
          have hxy : x = y := by simpa using hc
          exact ⟨na - (k + 1), by omega, k + 1, rfl, by omega, he26.mem ⟨rfl, rfl, rfl, rfl, trivial⟩, hH14, by rw [List.take_add_one, List.take_add_one, hx, hy, ht, hxy]⟩
      · skip
        refine wp_seq ?_
        refine wp_region_lit ?_
        refine lV (Value.bool false) he10 rfl rfl (wanted_plain rfl _) (rn_lss rfl (he10.op rfl) (he10.op rfl) (decide_eq_false (by omega)) w10) ?_
        intro a27 he27
        clear he10 a10
        refine wpList_nil ?_
        refine then_ok ?_
        refine wp_seq ?_
        refine wp_cond_false (he27.op rfl) ?_
        refine wp_exit ?_
        simp only [Exit.then, Exit.inBlock, if_true]
        refine wp_seq ?_
        refine wp_region_lit ?_
        refine lV (Value.bool true) he27 rfl rfl (wanted_plain rfl _) (rn_asg rfl (he27.op rfl) w10) ?_
        intro a28 he28
        clear he27 a27
        refine wpList_nil ?_
        refine then_ok ?_
        have hab : la = lb := by rwa [List.take_of_length_le (by omega), List.take_of_length_le (by omega)] at ht
        refine wp_ret ?_
        try simp only [Exit.then, Exit.inBlock]
        exact ret_env rfl he28 rfl ⟨by rw [decide_eq_true hab], hH10.new⟩
  · skip
    refine wp_seq ?_
    refine wp_seq ?_
    refine wp_region_lit ?_
    refine lV (Value.slice A na ca) he1 rfl rfl (wanted_plain rfl _) (rn_mv rfl (he1.op rfl) w) ?_
    intro a29 he29
    clear he1 a1
    refine lV (Value.int .i64 (na : Nat)) he29 rfl rfl (wanted_plain rfl _) (rn_lenC rfl (he29.op rfl) w) ?_
    intro a30 he30
    clear he29 a29
    refine lV (Value.slice B nb cb) he30 rfl rfl (wanted_plain rfl _) (rn_mv rfl (he30.op rfl) w) ?_
    intro a31 he31
    clear he30 a30
    refine lV (Value.int .i64 (nb : Nat)) he31 rfl rfl (wanted_plain rfl _) (rn_lenC rfl (he31.op rfl) w) ?_
    intro a32 he32
    clear he31 a31
    refine lV (Value.bool true) he32 rfl rfl (wanted_plain rfl _) (rn_neI rfl (he32.op rfl) (he32.op rfl) (by simp only [bne_iff_ne, ne_eq, Int.ofNat_inj]; exact hn) w) ?_
    intro a33 he33
    clear he32 a32
    refine wpList_nil ?_
    refine then_ok ?_
    refine wp_cond_true (he33.op rfl) ?_
    refine wp_seq ?_
    refine wp_region_lit ?_
    refine lV (Value.bool false) he33 rfl rfl (wanted_plain rfl _) (rn_asg rfl (he33.op rfl) w) ?_
    intro a34 he34
    clear he33 a33
    refine wpList_nil ?_
    refine then_ok ?_
    have hne : la ≠ lb := fun e => hn (by rw [← l1, ← l2, e])
    refine wp_ret ?_
    try simp only [Exit.then, Exit.inBlock]
    exact ret_env rfl he34 rfl ⟨by rw [decide_eq_false hne], hH.new⟩

theorem and_mask (k : Nat) (h : k ≤ 1000) : bits .and .u64 (k : Int) 4294967295 = (k : Int) := by
  have key : ∀ j : Fin 1001, bits .and .u64 ((j : Nat) : Int) 4294967295 = ((j : Nat) : Int) := by decide +kernel
  exact key ⟨k, by omega⟩
theorem u64_nat (k : Nat) (h : k ≤ 100000) : IntKind.u64.wrap (k : Int) = (k : Int) := u64_wraps _ (by omega) (by omega)
set_option linter.unusedSimpArgs false in
set_option maxRecDepth 100000 in
set_option maxHeartbeats 1600000 in
theorem Mul64_one (k : Nat) (hk : k ≤ 1000) (w : World) :
    Calls Tryd.prog 70 #[.int .u64 1, .int .u64 k] w fun e w' => e = .returned (.tuple #[.int .u64 0, .int .u64 k]) ∧ New w w' := by
  refine calls_args (vl := [Value.int .u64 1, Value.int .u64 (k : Int)]) 51 Tryd.func70 rfl Tryd.ntmps70 (by kernel_rfl) (fun a he => ?_)
  have he0 : Env 51 [(0, Value.int .u64 1), (1, Value.int .u64 (k : Int))] a := he
  clear he
  have hH := Hp.start w
  refine wp_seq ?_
  refine wp_region_lit ?_
  refine lV (Value.int .u64 0) he0 rfl rfl (wanted_plain rfl _) (rn_asg rfl (he0.op rfl) w) ?_
  intro a1 he1
  clear he0 a
  refine lV (Value.int .u64 0) he1 rfl rfl (wanted_plain rfl _) (rn_asg rfl (he1.op rfl) w) ?_
  intro a2 he2
  clear he1 a1
  refine wpList_nil ?_
  refine then_ok ?_
  refine wp_seq ?_
  refine wp_region_lit ?_
  refine lV (Value.int .u64 1) he2 rfl rfl (wanted_plain rfl _) (rn_mv rfl (he2.op rfl) w) ?_
  intro a3 he3
  clear he2 a2
  refine lV (Value.int .u64 1) he3 rfl rfl (wanted_plain rfl _) (rn_andU rfl (he3.op rfl) (he3.op rfl) (by decide) w) ?_
  intro a4 he4
  clear he3 a3
  refine lV (Value.int .u64 1) he4 rfl rfl (wanted_plain rfl _) (rn_asg rfl (he4.op rfl) w) ?_
  intro a5 he5
  clear he4 a4
  refine wpList_nil ?_
  refine then_ok ?_
  refine wp_seq ?_
  refine wp_region_lit ?_
  refine lV (Value.int .u64 1) he5 rfl rfl (wanted_plain rfl _) (rn_mv rfl (he5.op rfl) w) ?_
  intro a6 he6
  clear he5 a5
  refine lV (Value.int .u64 0) he6 rfl rfl (wanted_plain rfl _) (rn_shrU 32 rfl (he6.op rfl) (he6.op rfl) (by omega) (by decide) w) ?_
  intro a7 he7
  clear he6 a6
  refine lV (Value.int .u64 0) he7 rfl rfl (wanted_plain rfl _) (rn_asg rfl (he7.op rfl) w) ?_
  intro a8 he8
  clear he7 a7
  refine wpList_nil ?_
  refine then_ok ?_
  refine wp_seq ?_
  refine wp_region_lit ?_
  refine lV (Value.int .u64 (k : Int)) he8 rfl rfl (wanted_plain rfl _) (rn_mv rfl (he8.op rfl) w) ?_
  intro a9 he9
  clear he8 a8
  refine lV (Value.int .u64 (k : Int)) he9 rfl rfl (wanted_plain rfl _) (rn_andU rfl (he9.op rfl) (he9.op rfl) (and_mask k hk) w) ?_
  intro a10 he10
  clear he9 a9
  refine lV (Value.int .u64 (k : Int)) he10 rfl rfl (wanted_plain rfl _) (rn_asg rfl (he10.op rfl) w) ?_
  intro a11 he11
  clear he10 a10
  refine wpList_nil ?_
  refine then_ok ?_
  refine wp_seq ?_
  refine wp_region_lit ?_
  refine lV (Value.int .u64 (k : Int)) he11 rfl rfl (wanted_plain rfl _) (rn_mv rfl (he11.op rfl) w) ?_
  intro a12 he12
  clear he11 a11
  refine lV (Value.int .u64 0) he12 rfl rfl (wanted_plain rfl _) (rn_shrU 32 rfl (he12.op rfl) (he12.op rfl) (by omega) (by rw [Int.fdiv_eq_ediv_of_nonneg _ (by decide)]; omega) w) ?_
  intro a13 he13
  clear he12 a12
  refine lV (Value.int .u64 0) he13 rfl rfl (wanted_plain rfl _) (rn_asg rfl (he13.op rfl) w) ?_
  intro a14 he14
  clear he13 a13
  refine wpList_nil ?_
  refine then_ok ?_
  refine wp_seq ?_
  refine wp_region_lit ?_
  refine lV (Value.int .u64 1) he14 rfl rfl (wanted_plain rfl _) (rn_mv rfl (he14.op rfl) w) ?_
  intro a15 he15
  clear he14 a14
  refine lV (Value.int .u64 (k : Int)) he15 rfl rfl (wanted_plain rfl _) (rn_mv rfl (he15.op rfl) w) ?_
  intro a16 he16
  clear he15 a15
  refine lV (Value.int .u64 (k : Int)) he16 rfl rfl (wanted_plain rfl _) (rn_mulU rfl (he16.op rfl) (he16.op rfl) (by rw [Int.one_mul]; exact u64_nat k (by omega)) w) ?_
  intro a17 he17
  clear he16 a16
  refine lV (Value.int .u64 (k : Int)) he17 rfl rfl (wanted_plain rfl _) (rn_asg rfl (he17.op rfl) w) ?_
  intro a18 he18
  clear he17 a17
  refine wpList_nil ?_
  refine then_ok ?_
  refine wp_seq ?_
  refine wp_region_lit ?_
  refine lV (Value.int .u64 0) he18 rfl rfl (wanted_plain rfl _) (rn_mv rfl (he18.op rfl) w) ?_
  intro a19 he19
  clear he18 a18
  refine lV (Value.int .u64 (k : Int)) he19 rfl rfl (wanted_plain rfl _) (rn_mv rfl (he19.op rfl) w) ?_
  intro a20 he20
  clear he19 a19
  refine lV (Value.int .u64 0) he20 rfl rfl (wanted_plain rfl _) (rn_mulU rfl (he20.op rfl) (he20.op rfl) (by rw [Int.zero_mul]; decide) w) ?_
  intro a21 he21
  clear he20 a20
  refine lV (Value.int .u64 (k : Int)) he21 rfl rfl (wanted_plain rfl _) (rn_mv rfl (he21.op rfl) w) ?_
  intro a22 he22
  clear he21 a21
  refine lV (Value.int .u64 0) he22 rfl rfl (wanted_plain rfl _) (rn_shrU 32 rfl (he22.op rfl) (he22.op rfl) (by omega) (by rw [Int.fdiv_eq_ediv_of_nonneg _ (by decide)]; omega) w) ?_
  intro a23 he23
  clear he22 a22
  refine lV (Value.int .u64 0) he23 rfl rfl (wanted_plain rfl _) (rn_addU rfl (he23.op rfl) (he23.op rfl) (by decide) w) ?_
  intro a24 he24
  clear he23 a23
  refine lV (Value.int .u64 0) he24 rfl rfl (wanted_plain rfl _) (rn_asg rfl (he24.op rfl) w) ?_
  intro a25 he25
  clear he24 a24
  refine wpList_nil ?_
  refine then_ok ?_
  refine wp_seq ?_
  refine wp_region_lit ?_
  refine lV (Value.int .u64 0) he25 rfl rfl (wanted_plain rfl _) (rn_mv rfl (he25.op rfl) w) ?_
  intro a26 he26
  clear he25 a25
  refine lV (Value.int .u64 0) he26 rfl rfl (wanted_plain rfl _) (rn_andU rfl (he26.op rfl) (he26.op rfl) (by decide) w) ?_
  intro a27 he27
  clear he26 a26
  refine lV (Value.int .u64 0) he27 rfl rfl (wanted_plain rfl _) (rn_asg rfl (he27.op rfl) w) ?_
  intro a28 he28
  clear he27 a27
  refine wpList_nil ?_
  refine then_ok ?_
  refine wp_seq ?_
  refine wp_region_lit ?_
  refine lV (Value.int .u64 0) he28 rfl rfl (wanted_plain rfl _) (rn_mv rfl (he28.op rfl) w) ?_
  intro a29 he29
  clear he28 a28
  refine lV (Value.int .u64 0) he29 rfl rfl (wanted_plain rfl _) (rn_shrU 32 rfl (he29.op rfl) (he29.op rfl) (by omega) (by decide) w) ?_
  intro a30 he30
  clear he29 a29
  refine lV (Value.int .u64 0) he30 rfl rfl (wanted_plain rfl _) (rn_asg rfl (he30.op rfl) w) ?_
  intro a31 he31
  clear he30 a30
  refine wpList_nil ?_
  refine then_ok ?_
  refine wp_seq ?_
  refine wp_region_lit ?_
  refine lV (Value.int .u64 0) he31 rfl rfl (wanted_plain rfl _) (rn_mv rfl (he31.op rfl) w) ?_
  intro a32 he32
  clear he31 a31
  refine lV (Value.int .u64 1) he32 rfl rfl (wanted_plain rfl _) (rn_mv rfl (he32.op rfl) w) ?_
  intro a33 he33
  clear he32 a32
  refine lV (Value.int .u64 0) he33 rfl rfl (wanted_plain rfl _) (rn_mv rfl (he33.op rfl) w) ?_
  intro a34 he34
  clear he33 a33
  refine lV (Value.int .u64 0) he34 rfl rfl (wanted_plain rfl _) (rn_mulU rfl (he34.op rfl) (he34.op rfl) (by decide) w) ?_
  intro a35 he35
  clear he34 a34
  refine lV (Value.int .u64 0) he35 rfl rfl (wanted_plain rfl _) (rn_addU rfl (he35.op rfl) (he35.op rfl) (by decide) w) ?_
  intro a36 he36
  clear he35 a35
  refine lV (Value.int .u64 0) he36 rfl rfl (wanted_plain rfl _) (rn_asg rfl (he36.op rfl) w) ?_
  intro a37 he37
  clear he36 a36
  refine wpList_nil ?_
  refine then_ok ?_
  refine wp_seq ?_
  refine wp_region_lit ?_
  refine lV (Value.int .u64 0) he37 rfl rfl (wanted_plain rfl _) (rn_mv rfl (he37.op rfl) w) ?_
  intro a38 he38
  clear he37 a37
  refine lV (Value.int .u64 0) he38 rfl rfl (wanted_plain rfl _) (rn_mv rfl (he38.op rfl) w) ?_
  intro a39 he39
  clear he38 a38
  refine lV (Value.int .u64 0) he39 rfl rfl (wanted_plain rfl _) (rn_mulU rfl (he39.op rfl) (he39.op rfl) (by decide) w) ?_
  intro a40 he40
  clear he39 a39
  refine lV (Value.int .u64 0) he40 rfl rfl (wanted_plain rfl _) (rn_mv rfl (he40.op rfl) w) ?_
  intro a41 he41
  clear he40 a40
  refine lV (Value.int .u64 0) he41 rfl rfl (wanted_plain rfl _) (rn_addU rfl (he41.op rfl) (he41.op rfl) (by decide) w) ?_
  intro a42 he42
  clear he41 a41
  refine lV (Value.int .u64 0) he42 rfl rfl (wanted_plain rfl _) (rn_mv rfl (he42.op rfl) w) ?_
  intro a43 he43
  clear he42 a42
  refine lV (Value.int .u64 0) he43 rfl rfl (wanted_plain rfl _) (rn_shrU 32 rfl (he43.op rfl) (he43.op rfl) (by omega) (by decide) w) ?_
  intro a44 he44
  clear he43 a43
  refine lV (Value.int .u64 0) he44 rfl rfl (wanted_plain rfl _) (rn_addU rfl (he44.op rfl) (he44.op rfl) (by decide) w) ?_
  intro a45 he45
  clear he44 a44
  refine lV (Value.int .u64 0) he45 rfl rfl (wanted_plain rfl _) (rn_asg rfl (he45.op rfl) w) ?_
  intro a46 he46
  clear he45 a45
  refine wpList_nil ?_
  refine then_ok ?_
  refine wp_seq ?_
  refine wp_region_lit ?_
  refine lV (Value.int .u64 1) he46 rfl rfl (wanted_plain rfl _) (rn_mv rfl (he46.op rfl) w) ?_
  intro a47 he47
  clear he46 a46
  refine lV (Value.int .u64 (k : Int)) he47 rfl rfl (wanted_plain rfl _) (rn_mv rfl (he47.op rfl) w) ?_
  intro a48 he48
  clear he47 a47
  refine lV (Value.int .u64 (k : Int)) he48 rfl rfl (wanted_plain rfl _) (rn_mulU rfl (he48.op rfl) (he48.op rfl) (by rw [Int.one_mul]; exact u64_nat k (by omega)) w) ?_
  intro a49 he49
  clear he48 a48
  refine lV (Value.int .u64 (k : Int)) he49 rfl rfl (wanted_plain rfl _) (rn_asg rfl (he49.op rfl) w) ?_
  intro a50 he50
  clear he49 a49
  refine wpList_nil ?_
  refine then_ok ?_
  refine wp_ret ?_
  try simp only [Exit.then, Exit.inBlock]
  exact ret_tt rfl he50 rfl rfl ⟨rfl, hH.new⟩

set_option linter.unusedSimpArgs false in
set_option maxRecDepth 100000 in
set_option maxHeartbeats 1600000 in
theorem Mul_one (k : Nat) (hk : k ≤ 1000) (w : World) :
    Calls Tryd.prog 60 #[.int .u64 1, .int .u64 k] w fun e w' => e = .returned (.tuple #[.int .u64 0, .int .u64 k]) ∧ New w w' := by
  refine calls_args (vl := [Value.int .u64 1, Value.int .u64 (k : Int)]) 30 Tryd.func60 rfl Tryd.ntmps60 (by kernel_rfl) (fun a he => ?_)
  have he0 : Env 30 [(0, Value.int .u64 1), (1, Value.int .u64 (k : Int))] a := he
  clear he
  have hH := Hp.start w
  refine wp_seq ?_
  refine wp_region_lit ?_
  refine lV (Value.int .u64 0) he0 rfl rfl (wanted_plain rfl _) (rn_asg rfl (he0.op rfl) w) ?_
  intro a1 he1
  clear he0 a
  refine lV (Value.int .u64 0) he1 rfl rfl (wanted_plain rfl _) (rn_asg rfl (he1.op rfl) w) ?_
  intro a2 he2
  clear he1 a1
  refine wpList_nil ?_
  refine then_ok ?_
  refine wp_seq ?_
  refine wp_cond_false (he2.op rfl) ?_
  refine wp_skip ?_
  refine then_ok ?_
  refine wp_seq ?_
  refine wp_region_lit ?_
  refine lV (Value.int .u64 1) he2 rfl rfl (wanted_plain rfl _) (rn_mv rfl (he2.op rfl) w) ?_
  intro a3 he3
  clear he2 a2
  refine lV (Value.int .u64 (k : Int)) he3 rfl rfl (wanted_plain rfl _) (rn_mv rfl (he3.op rfl) w) ?_
  intro a4 he4
  clear he3 a3
  refine lC he4 rfl rfl Tryd.func70 (by kernel_rfl) rfl rfl (wanted_plain rfl _) rfl (Mul64_one k hk w) ?_
  intro w5 a6 hn he6
  have hH5 := hH.call hn
  clear he4 a4 hH hn
  refine lV (Value.tuple #[Value.int .u64 0, Value.int .u64 (k : Int)]) he6 rfl rfl (wanted_plain rfl _) (rn_mv rfl (he6.op rfl) w5) ?_
  intro a7 he7
  clear he6 a6
  refine lV (Value.int .u64 0) he7 rfl rfl (wanted_plain rfl _) (rn_ext rfl (he7.op rfl) rfl w5) ?_
  intro a8 he8
  clear he7 a7
  refine lV (Value.int .u64 (k : Int)) he8 rfl rfl (wanted_plain rfl _) (rn_ext rfl (he8.op rfl) rfl w5) ?_
  intro a9 he9
  clear he8 a8
  refine lV (Value.int .u64 0) he9 rfl rfl (wanted_plain rfl _) (rn_asg rfl (he9.op rfl) w5) ?_
  intro a10 he10
  clear he9 a9
  refine lV (Value.int .u64 (k : Int)) he10 rfl rfl (wanted_plain rfl _) (rn_asg rfl (he10.op rfl) w5) ?_
  intro a11 he11
  clear he10 a10
  refine wpList_nil ?_
  refine then_ok ?_
  refine wp_seq ?_
  refine wp_region_lit ?_
  refine lV (Value.int .u64 0) he11 rfl rfl (wanted_plain rfl _) (rn_mv rfl (he11.op rfl) w5) ?_
  intro a12 he12
  clear he11 a11
  refine lV (Value.int .u64 (k : Int)) he12 rfl rfl (wanted_plain rfl _) (rn_mv rfl (he12.op rfl) w5) ?_
  intro a13 he13
  clear he12 a12
  refine lV (Value.int .u64 0) he13 rfl rfl (wanted_plain rfl _) (rn_asg rfl (he13.op rfl) w5) ?_
  intro a14 he14
  clear he13 a13
  refine lV (Value.int .u64 (k : Int)) he14 rfl rfl (wanted_plain rfl _) (rn_asg rfl (he14.op rfl) w5) ?_
  intro a15 he15
  clear he14 a14
  refine wpList_nil ?_
  refine then_ok ?_
  refine wp_ret ?_
  try simp only [Exit.then, Exit.inBlock]
  exact ret_tt rfl he15 rfl rfl ⟨rfl, hH5.new⟩

theorem rep_first (k : Nat) (c : Ce) : (List.replicate k zeroCe).take 0 ++ [c].take (min 1 k) ++ (List.replicate k zeroCe).drop (0 + min 1 k) = List.replicate (min 1 k) c ++ List.replicate (k - min 1 k) zeroCe := by
  cases k with
  | zero => rfl
  | succ k => simp [show min 1 (k + 1) = 1 by omega]
theorem rep_more (N k : Nat) (c : Ce) (h : k ≤ N) : (List.replicate k c ++ List.replicate (N - k) zeroCe).take k ++ ((List.replicate k c ++ List.replicate (N - k) zeroCe).take k).take (min k (N - k)) ++ (List.replicate k c ++ List.replicate (N - k) zeroCe).drop (k + min k (N - k)) = List.replicate (k + min k (N - k)) c ++ List.replicate (N - (k + min k (N - k))) zeroCe := by
  have e1 : (List.replicate k c ++ List.replicate (N - k) zeroCe).take k = List.replicate k c := List.take_left' (by simp)
  rw [e1, List.take_replicate, List.drop_append, List.length_replicate, List.drop_eq_nil_of_le (by simp), List.nil_append, List.drop_replicate, show min (min k (N - k)) k = min k (N - k) by omega, List.replicate_append_replicate, show N - k - (k + min k (N - k) - k) = N - (k + min k (N - k)) by omega]

set_option linter.unusedSimpArgs false in
set_option maxRecDepth 100000 in
set_option maxHeartbeats 1600000 in
theorem Repeat_one (c : Ce) (A : Option Addr) (b cap k : Nat) (hk : k ≤ 1000) (w : World) (hr : RdC w b A 1 [c]) :
    Calls Tryd.prog 49 #[.slice A 1 cap, .int .i64 k] w (RowSaid (List.replicate k c) w) := by
  refine calls_args (vl := [Value.slice A 1 cap, Value.int .i64 (k : Int)]) 48 Tryd.func49 rfl Tryd.ntmps49 (by kernel_rfl) (fun a he => ?_)
  have he0 : Env 48 [(0, Value.slice A 1 cap), (1, Value.int .i64 (k : Int))] a := he
  clear he
  have hH := Hp.start w
  refine wp_seq ?_
  refine wp_region_lit ?_
  refine lV (Value.slice none 0 0) he0 rfl rfl (wanted_plain rfl _) (rn_asg rfl (he0.op rfl) w) ?_
  intro a1 he1
  clear he0 a
  refine wpList_nil ?_
  refine then_ok ?_
  refine wp_seq ?_
  refine wp_seq ?_
  refine wp_region_lit ?_
  refine lV (Value.int .i64 (k : Int)) he1 rfl rfl (wanted_plain rfl _) (rn_mv rfl (he1.op rfl) w) ?_
  intro a2 he2
  clear he1 a1
  refine lV (Value.bool false) he2 rfl rfl (wanted_plain rfl _) (rn_lss rfl (he2.op rfl) (he2.op rfl) (decide_eq_false (by omega)) w) ?_
  intro a3 he3
  clear he2 a2
  refine wpList_nil ?_
  refine then_ok ?_
  refine wp_cond_false (he3.op rfl) ?_
  refine wp_skip ?_
  refine then_ok ?_
  refine wp_seq ?_
  refine wp_region_lit ?_
  refine lV (Value.slice A 1 cap) he3 rfl rfl (wanted_plain rfl _) (rn_mv rfl (he3.op rfl) w) ?_
  intro a4 he4
  clear he3 a3
  refine lV (Value.int .i64 1) he4 rfl rfl (wanted_plain rfl _) (rn_lenC rfl (he4.op rfl) w) ?_
  intro a5 he5
  clear he4 a4
  refine lV (Value.int .u64 1) he5 rfl rfl (wanted_plain rfl _) (rn_cvWu rfl (he5.op rfl) (by decide) w) ?_
  intro a6 he6
  clear he5 a5
  refine lV (Value.int .i64 (k : Int)) he6 rfl rfl (wanted_plain rfl _) (rn_mv rfl (he6.op rfl) w) ?_
  intro a7 he7
  clear he6 a6
  refine lV (Value.int .u64 (k : Int)) he7 rfl rfl (wanted_plain rfl _) (rn_cvWu rfl (he7.op rfl) (u64_nat k (by omega)) w) ?_
  intro a8 he8
  clear he7 a7
  refine lC he8 rfl rfl Tryd.func60 (by kernel_rfl) rfl rfl (wanted_plain rfl _) rfl (Mul_one k hk w) ?_
  intro w9 a10 hn he10
  have hH9 := hH.call hn
  clear he8 a8 hH hn
  refine lV (Value.tuple #[Value.int .u64 0, Value.int .u64 (k : Int)]) he10 rfl rfl (wanted_plain rfl _) (rn_mv rfl (he10.op rfl) w9) ?_
  intro a11 he11
  clear he10 a10
  refine lV (Value.int .u64 0) he11 rfl rfl (wanted_plain rfl _) (rn_ext rfl (he11.op rfl) rfl w9) ?_
  intro a12 he12
  clear he11 a11
  refine lV (Value.int .u64 (k : Int)) he12 rfl rfl (wanted_plain rfl _) (rn_ext rfl (he12.op rfl) rfl w9) ?_
  intro a13 he13
  clear he12 a12
  refine lV (Value.int .u64 0) he13 rfl rfl (wanted_plain rfl _) (rn_asg rfl (he13.op rfl) w9) ?_
  intro a14 he14
  clear he13 a13
  refine lV (Value.int .u64 (k : Int)) he14 rfl rfl (wanted_plain rfl _) (rn_asg rfl (he14.op rfl) w9) ?_
  intro a15 he15
  clear he14 a14
  refine wpList_nil ?_
  refine then_ok ?_
  refine wp_seq ?_
  refine wp_seq ?_
  refine wp_region_lit ?_
  refine lV (Value.int .u64 0) he15 rfl rfl (wanted_plain rfl _) (rn_mv rfl (he15.op rfl) w9) ?_
  intro a16 he16
  clear he15 a15
  refine lV (Value.bool false) he16 rfl rfl (wanted_plain rfl _) (rn_gtu rfl (he16.op rfl) (he16.op rfl) (by decide) w9) ?_
  intro a17 he17
  clear he16 a16
  refine lV (Value.bool false) he17 rfl rfl (wanted_plain rfl _) (rn_mv rfl (he17.op rfl) w9) ?_
  intro a18 he18
  clear he17 a17
  refine lV (Value.int .u64 (k : Int)) he18 rfl rfl (he18.want rfl rfl rfl rfl rfl) (rn_mv rfl (he18.op rfl) w9) ?_
  intro a19 he19
  clear he18 a18
  refine lV (Value.bool false) he19 rfl rfl (he19.want rfl rfl rfl rfl rfl) (rn_gtu rfl (he19.op rfl) (he19.op rfl) (decide_eq_false (by omega)) w9) ?_
  intro a20 he20
  clear he19 a19
  refine lV (Value.bool false) he20 rfl rfl (wanted_plain rfl _) (rn_pk0 rfl (he20.op rfl) (he20.op rfl) w9) ?_
  intro a21 he21
  clear he20 a20
  refine wpList_nil ?_
  refine then_ok ?_
  refine wp_cond_false (he21.op rfl) ?_
  refine wp_skip ?_
  refine then_ok ?_
  refine wp_seq ?_
  refine wp_region_lit ?_
  refine lV (Value.int .u64 (k : Int)) he21 rfl rfl (wanted_plain rfl _) (rn_mv rfl (he21.op rfl) w9) ?_
  intro a22 he22
  clear he21 a21
  refine lV (Value.int .i64 (k : Int)) he22 rfl rfl (wanted_plain rfl _) (rn_cvuW rfl (he22.op rfl) (IntWalk.i64_in _ ⟨by omega, by omega⟩) w9) ?_
  intro a23 he23
  clear he22 a22
  refine lEx he23 rfl rfl (wanted_plain rfl _) (rx_make (base := w.heap.size) (c := k) rfl (he23.op rfl) (he23.op rfl) (by omega) hH9.new.size) ?_
  rintro _ wm ⟨rfl, hown, hn⟩
  obtain ⟨g, hg⟩ : ∃ g, w9.heap.size = g := ⟨_, rfl⟩
  rw [hg] at hown ⊢
  intro a24 he24
  have hHm := hH9.call hn
  clear he23 a23 hH9 hn hg
  refine lV (Value.slice (some ⟨g, 0, none⟩) k k) he24 rfl rfl (wanted_plain rfl _) (rn_asg rfl (he24.op rfl) wm) ?_
  intro a25 he25
  clear he24 a24
  refine wpList_nil ?_
  refine then_ok ?_
  refine wp_seq ?_
  refine wp_region_lit ?_
  refine lV (Value.slice (some ⟨g, 0, none⟩) k k) he25 rfl rfl (wanted_plain rfl _) (rn_mv rfl (he25.op rfl) wm) ?_
  intro a26 he26
  clear he25 a25
  refine lV (Value.slice A 1 cap) he26 rfl rfl (wanted_plain rfl _) (rn_mv rfl (he26.op rfl) wm) ?_
  intro a27 he27
  clear he26 a26
  refine lEx he27 rfl rfl (wanted_plain rfl _) (rx_copy (N := k) (off := 0) (dn := k) hown (hr.new hHm.new) rfl (he27.op rfl) (he27.op rfl) (fun _ => by rw [Nat.zero_mul]) (by omega)) ?_
  rintro _ wc ⟨rfl, hoc, hfc⟩
  have hHc := hHm.ownF hown hfc (Nat.le_refl _) (by kernel_rfl)
  intro a28 he28
  clear he27 a27 hHm hfc hown
  have hown := hoc
  clear hoc
  refine lV (Value.int .i64 ((min 1 k : Nat) : Int)) he28 rfl rfl (wanted_plain rfl _) (rn_asg rfl (he28.op rfl) wc) ?_
  intro a29 he29
  clear he28 a28
  refine wpList_nil ?_
  refine then_ok ?_
  rw [rep_first] at hown
  refine wp_seq ?_
  refine wp_block ?_
  refine loop_nat (fun q a w' => ∃ (m : Nat), q = k - m ∧ m ≤ k ∧ (0 < m ∨ k = 0) ∧ Env 48 [(7, Value.slice (some ⟨g, 0, none⟩) k k), (8, Value.int .i64 (m : Int))] a ∧ Hp w [] w' ∧ OwnC w' w.heap.size (.slice (some ⟨g, 0, none⟩) k k) k (List.replicate m c ++ List.replicate (k - m) zeroCe)) _ ⟨min 1 k, rfl, by omega, by omega, he29.mem ⟨rfl, rfl, trivial⟩, hHc, hown⟩ ?_
  clear he29 hHc
  rintro q a30 w30 ⟨m, rfl, hm, hp, he30, hH30, hown⟩
  as_aux_lemma =>
    by_cases hmk : m < k
    · skip
      refine wp_seq ?_
      refine wp_seq ?_
      refine wp_region_lit ?_
      refine lV (Value.int .i64 (m : Int)) he30 rfl rfl (wanted_plain rfl _) (rn_mv rfl (he30.op rfl) w30) ?_
      intro a31 he31
      clear he30 a30
      refine lV (Value.slice (some ⟨g, 0, none⟩) k k) he31 rfl rfl (wanted_plain rfl _) (rn_mv rfl (he31.op rfl) w30) ?_
      intro a32 he32
      clear he31 a31
      refine lV (Value.int .i64 (k : Nat)) he32 rfl rfl (wanted_plain rfl _) (rn_lenC rfl (he32.op rfl) w30) ?_
      intro a33 he33
      clear he32 a32
      refine lV (Value.bool true) he33 rfl rfl (wanted_plain rfl _) (rn_lss rfl (he33.op rfl) (he33.op rfl) (decide_eq_true (by omega)) w30) ?_
      intro a34 he34
      clear he33 a33
      refine wpList_nil ?_
      refine then_ok ?_
      refine wp_cond_true (he34.op rfl) ?_
      refine wp_skip ?_
      refine then_ok ?_
      refine wp_block ?_
      refine wp_region_held_drew (S := Hp w []) (by kernel_rfl) (hH30.drew) (fun _ => ?_)
      have hn : New w30 (World.drew w30) := (Fr.refl _ _).drew
      replace hown := own_fr hown hn (fun _ _ h => h)
      clear hn
      have hH35 := hH30.drew
      clear hH30
      generalize World.drew w30 = w35 at *
      refine hV (fuel := 9) (i := 0) (Value.int .i64 (m : Int)) he34 rfl rfl rfl (by kernel_rfl) (by kernel_rfl) (by kernel_rfl) (fun _ _ _ h => h) (wanted_plain rfl _) (fun w' _ => rn_mv rfl (he34.op rfl) w') hH35 ?_
      intro a36 he36
      clear he34 a34
      refine hV (fuel := 8) (i := 1) (Value.slice (some ⟨g, 0, none⟩) k k) he36 rfl rfl rfl (by kernel_rfl) (by kernel_rfl) (by kernel_rfl) (fun _ _ _ h => h) (wanted_plain rfl _) (fun w' _ => rn_mv rfl (he36.op rfl) w') hH35 ?_
      intro a37 he37
      clear he36 a36
      refine hV (fuel := 7) (i := 2) (Value.int .i64 (m : Int)) he37 rfl rfl rfl (by kernel_rfl) (by kernel_rfl) (by kernel_rfl) (fun _ _ _ h => h) (wanted_plain rfl _) (fun w' _ => rn_mv rfl (he37.op rfl) w') hH35 ?_
      intro a38 he38
      clear he37 a37
      refine hV (fuel := 6) (i := 3) (Value.slice (some ⟨g, m * 16, none⟩) (k - m) (k - m)) he38 rfl rfl rfl (by kernel_rfl) (by kernel_rfl) (by kernel_rfl) (fun _ _ _ h => h) (wanted_plain rfl _) (fun w' _ => rn_sll (k := m) rfl (he38.op rfl) (he38.op rfl) (by omega) (by simp [sliced, addr_add, show ¬ k = m by omega]) w') hH35 ?_
      intro a39 he39
      clear he38 a38
      refine hV (fuel := 5) (i := 4) (Value.slice (some ⟨g, 0, none⟩) k k) he39 rfl rfl rfl (by kernel_rfl) (by kernel_rfl) (by kernel_rfl) (fun _ _ _ h => h) (wanted_plain rfl _) (fun w' _ => rn_mv rfl (he39.op rfl) w') hH35 ?_
      intro a40 he40
      clear he39 a39
      refine hV (fuel := 4) (i := 5) (Value.int .i64 (m : Int)) he40 rfl rfl rfl (by kernel_rfl) (by kernel_rfl) (by kernel_rfl) (fun _ _ _ h => h) (wanted_plain rfl _) (fun w' _ => rn_mv rfl (he40.op rfl) w') hH35 ?_
      intro a41 he41
      clear he40 a40
      refine hV (fuel := 3) (i := 6) (Value.slice (some ⟨g, 0, none⟩) m k) he41 rfl rfl rfl (by kernel_rfl) (by kernel_rfl) (by kernel_rfl) (fun _ _ _ h => h) (wanted_plain rfl _) (fun w' _ => rn_slh (k := m) rfl (he41.op rfl) (he41.op rfl) (by omega) (by simp [sliced, addr_add]) w') hH35 ?_
      intro a42 he42
      clear he41 a41
      obtain ⟨b1, A1, c1, hs1, -, hr1⟩ := own_rdg (R := rC) hown
      simp only [Value.slice.injEq, true_and] at hs1
      obtain ⟨rfl, rfl⟩ := hs1
      obtain ⟨A2, e2, r2⟩ := slh_rd (c := k) (k := m) (rdc_of hr1) (by omega)
      have e3 : A2 = some ⟨g, 0, none⟩ := by have := e2; simp [sliced, addr_add] at this; exact this.symm
      subst e3
      clear e2 hr1
      refine hEx (fuel := 2) (i := 7) he42 (by kernel_rfl) rfl rfl rfl (wanted_plain rfl _) (rx_copy (N := k) (off := m) (dn := k - m) hown r2 rfl (he42.op rfl) (he42.op rfl) (fun _ => rfl) (by omega)) ?_
      rintro _ wd ⟨rfl, hod, hfd⟩
      have hHd := hH35.ownF hown hfd (Nat.le_refl _) (by kernel_rfl)
      refine ⟨hHd, ?_⟩
      intro a43 he43
      clear he42 a42 hH35 hfd hown
      have hown := hod
      clear hod
      refine hV (fuel := 1) (i := 8) (Value.int .i64 ((m + min m (k - m) : Nat) : Int)) he43 rfl rfl rfl (by kernel_rfl) (by kernel_rfl) (by kernel_rfl) (fun _ _ _ h => h) (wanted_plain rfl _) (fun w' _ => rn_add1 rfl (he43.op rfl) (he43.op rfl) (by rw [IntWalk.i64_in _ ⟨by omega, by omega⟩]; omega) w') hHd ?_
      intro a44 he44
      clear he43 a43
      refine hV (fuel := 0) (i := 9) (Value.int .i64 ((m + min m (k - m) : Nat) : Int)) he44 rfl rfl rfl (by kernel_rfl) (by kernel_rfl) (by kernel_rfl) (fun _ _ _ h => h) (wanted_plain rfl _) (fun w' _ => rn_asg rfl (he44.op rfl) w') hHd ?_
      intro a45 he45
      clear he44 a44
      rw [rep_more k m c hm] at hown
      clear r2
      refine wpAnyH_done (by kernel_rfl) ?_ _
      refine block_ok ?_
      exact ⟨k - (m + min m (k - m)), by omega, m + min m (k - m), rfl, by omega, by omega, he45.mem ⟨rfl, rfl, trivial⟩, hHd, hown⟩
    · skip
      refine wp_seq ?_
      refine wp_seq ?_
      refine wp_region_lit ?_
      refine lV (Value.int .i64 (m : Int)) he30 rfl rfl (wanted_plain rfl _) (rn_mv rfl (he30.op rfl) w30) ?_
      intro a46 he46
      clear he30 a30
      refine lV (Value.slice (some ⟨g, 0, none⟩) k k) he46 rfl rfl (wanted_plain rfl _) (rn_mv rfl (he46.op rfl) w30) ?_
      intro a47 he47
      clear he46 a46
      refine lV (Value.int .i64 (k : Nat)) he47 rfl rfl (wanted_plain rfl _) (rn_lenC rfl (he47.op rfl) w30) ?_
      intro a48 he48
      clear he47 a47
      refine lV (Value.bool false) he48 rfl rfl (wanted_plain rfl _) (rn_lss rfl (he48.op rfl) (he48.op rfl) (decide_eq_false (by omega)) w30) ?_
      intro a49 he49
      clear he48 a48
      refine wpList_nil ?_
      refine then_ok ?_
      refine wp_cond_false (he49.op rfl) ?_
      refine wp_exit ?_
      simp only [Exit.then, Exit.inBlock, if_true]
      obtain rfl : m = k := by omega
      rw [Nat.sub_self, List.replicate_zero, List.append_nil] at hown
      refine wp_seq ?_
      refine wp_region_lit ?_
      refine lV (Value.slice (some ⟨g, 0, none⟩) m m) he49 rfl rfl (wanted_plain rfl _) (rn_mv rfl (he49.op rfl) w30) ?_
      intro a50 he50
      clear he49 a49
      refine lV (Value.slice (some ⟨g, 0, none⟩) m m) he50 rfl rfl (wanted_plain rfl _) (rn_asg rfl (he50.op rfl) w30) ?_
      intro a51 he51
      clear he50 a50
      refine wpList_nil ?_
      refine then_ok ?_
      refine wp_ret ?_
      try simp only [Exit.then, Exit.inBlock]
      exact ret_env rfl he51 rfl (row_said hown rfl hH30.new)

set_option linter.unusedSimpArgs false in
set_option maxRecDepth 100000 in
set_option maxHeartbeats 1600000 in
theorem Grow_nil (n : Nat) (hn : n ≤ 1000000) (w : World) :
    Calls Tryd.prog 61 #[.slice none 0 0, .int .i64 n] w (RowSaid [] w) := by
  refine calls_args (vl := [Value.slice none 0 0, Value.int .i64 (n : Int)]) 27 Tryd.func61 rfl Tryd.ntmps61 (by kernel_rfl) (fun a he => ?_)
  have he0 : Env 27 [(0, Value.slice none 0 0), (1, Value.int .i64 (n : Int))] a := he
  clear he
  have hH := Hp.start w
  refine wp_seq ?_
  refine wp_region_lit ?_
  refine lV (Value.slice none 0 0) he0 rfl rfl (wanted_plain rfl _) (rn_asg rfl (he0.op rfl) w) ?_
  intro a1 he1
  clear he0 a
  refine wpList_nil ?_
  refine then_ok ?_
  refine wp_seq ?_
  refine wp_seq ?_
  refine wp_region_lit ?_
  refine lV (Value.int .i64 (n : Int)) he1 rfl rfl (wanted_plain rfl _) (rn_mv rfl (he1.op rfl) w) ?_
  intro a2 he2
  clear he1 a1
  refine lV (Value.bool false) he2 rfl rfl (wanted_plain rfl _) (rn_lss rfl (he2.op rfl) (he2.op rfl) (decide_eq_false (by omega)) w) ?_
  intro a3 he3
  clear he2 a2
  refine wpList_nil ?_
  refine then_ok ?_
  refine wp_cond_false (he3.op rfl) ?_
  refine wp_skip ?_
  refine then_ok ?_
  refine wp_seq ?_
  refine wp_seq ?_
  refine wp_region_lit ?_
  refine lV (Value.int .i64 (n : Int)) he3 rfl rfl (wanted_plain rfl _) (rn_mv rfl (he3.op rfl) w) ?_
  intro a4 he4
  clear he3 a3
  refine lV (Value.slice none 0 0) he4 rfl rfl (wanted_plain rfl _) (rn_mv rfl (he4.op rfl) w) ?_
  intro a5 he5
  clear he4 a4
  refine lV (Value.int .i64 0) he5 rfl rfl (wanted_plain rfl _) (rn_capC rfl (he5.op rfl) w) ?_
  intro a6 he6
  clear he5 a5
  refine lV (Value.slice none 0 0) he6 rfl rfl (wanted_plain rfl _) (rn_mv rfl (he6.op rfl) w) ?_
  intro a7 he7
  clear he6 a6
  refine lV (Value.int .i64 0) he7 rfl rfl (wanted_plain rfl _) (rn_lenC rfl (he7.op rfl) w) ?_
  intro a8 he8
  clear he7 a7
  refine lV (Value.int .i64 0) he8 rfl rfl (wanted_plain rfl _) (rn_subI rfl (he8.op rfl) (he8.op rfl) (by decide) w) ?_
  intro a9 he9
  clear he8 a8
  refine lV (Value.int .i64 (n : Int)) he9 rfl rfl (wanted_plain rfl _) (rn_subI rfl (he9.op rfl) (he9.op rfl) (by rw [IntWalk.i64_in _ ⟨by omega, by omega⟩]; omega) w) ?_
  intro a10 he10
  clear he9 a9
  refine lV (Value.int .i64 (n : Int)) he10 rfl rfl (wanted_plain rfl _) (rn_asg rfl (he10.op rfl) w) ?_
  intro a11 he11
  clear he10 a10
  refine wpList_nil ?_
  refine then_ok ?_
  by_cases h0 : 0 < n
  · skip
    refine wp_seq ?_
    refine wp_region_lit ?_
    refine lV (Value.int .i64 (n : Int)) he11 rfl rfl (wanted_plain rfl _) (rn_mv rfl (he11.op rfl) w) ?_
    intro a12 he12
    clear he11 a11
    refine lV (Value.bool true) he12 rfl rfl (wanted_plain rfl _) (rn_gtr rfl (he12.op rfl) (he12.op rfl) (decide_eq_true (by omega)) w) ?_
    intro a13 he13
    clear he12 a12
    refine wpList_nil ?_
    refine then_ok ?_
    refine wp_cond_true (he13.op rfl) ?_
    refine wp_region_lit ?_
    refine lV (Value.slice none 0 0) he13 rfl rfl (wanted_plain rfl _) (rn_mv rfl (he13.op rfl) w) ?_
    intro a14 he14
    clear he13 a13
    refine lV (Value.slice none 0 0) he14 rfl rfl (wanted_plain rfl _) (rn_mv rfl (he14.op rfl) w) ?_
    intro a15 he15
    clear he14 a14
    refine lV (Value.int .i64 0) he15 rfl rfl (wanted_plain rfl _) (rn_capC rfl (he15.op rfl) w) ?_
    intro a16 he16
    clear he15 a15
    refine lV (Value.slice none 0 0) he16 rfl rfl (wanted_plain rfl _) (rn_slh (k := 0) rfl (he16.op rfl) (he16.op rfl) (Nat.le_refl _) (by simp [sliced]) w) ?_
    intro a17 he17
    clear he16 a16
    refine lV (Value.int .i64 (n : Int)) he17 rfl rfl (wanted_plain rfl _) (rn_mv rfl (he17.op rfl) w) ?_
    intro a18 he18
    clear he17 a17
    refine lEx he18 rfl rfl (wanted_plain rfl _) (rx_appz (base := w.heap.size) (n := n) rfl (he18.op rfl) (he18.op rfl) h0 hn hH.new.size) ?_
    rintro _ wm ⟨g, cp, rfl, hown, hnw, hcp⟩
    intro a19 he19
    have hHm := hH.call hnw
    clear he18 a18 hH hnw
    refine lV (Value.slice none 0 0) he19 rfl rfl (wanted_plain rfl _) (rn_mv rfl (he19.op rfl) wm) ?_
    intro a20 he20
    clear he19 a19
    refine lV (Value.int .i64 0) he20 rfl rfl (wanted_plain rfl _) (rn_lenC rfl (he20.op rfl) wm) ?_
    intro a21 he21
    clear he20 a20
    refine lV (Value.slice (some ⟨g, 0, none⟩) 0 cp) he21 rfl rfl (wanted_plain rfl _) (rn_slh (k := 0) rfl (he21.op rfl) (he21.op rfl) (Nat.zero_le _) (by simp [sliced, addr_add]) wm) ?_
    intro a22 he22
    clear he21 a21
    refine lV (Value.slice (some ⟨g, 0, none⟩) 0 cp) he22 rfl rfl (wanted_plain rfl _) (rn_asg rfl (he22.op rfl) wm) ?_
    intro a23 he23
    clear he22 a22
    refine wpList_nil ?_
    refine then_ok ?_
    refine wp_seq ?_
    refine wp_region_lit ?_
    refine lV (Value.slice (some ⟨g, 0, none⟩) 0 cp) he23 rfl rfl (wanted_plain rfl _) (rn_mv rfl (he23.op rfl) wm) ?_
    intro a24 he24
    clear he23 a23
    refine lV (Value.slice (some ⟨g, 0, none⟩) 0 cp) he24 rfl rfl (wanted_plain rfl _) (rn_asg rfl (he24.op rfl) wm) ?_
    intro a25 he25
    clear he24 a24
    refine wpList_nil ?_
    refine then_ok ?_
    refine wp_ret ?_
    try simp only [Exit.then, Exit.inBlock]
    exact ret_env rfl he25 rfl (row_said hown rfl hHm.new)
  · skip
    refine wp_seq ?_
    refine wp_region_lit ?_
    refine lV (Value.int .i64 (n : Int)) he11 rfl rfl (wanted_plain rfl _) (rn_mv rfl (he11.op rfl) w) ?_
    intro a26 he26
    clear he11 a11
    refine lV (Value.bool false) he26 rfl rfl (wanted_plain rfl _) (rn_gtr rfl (he26.op rfl) (he26.op rfl) (decide_eq_false (by omega)) w) ?_
    intro a27 he27
    clear he26 a26
    refine wpList_nil ?_
    refine then_ok ?_
    refine wp_cond_false (he27.op rfl) ?_
    refine wp_skip ?_
    refine then_ok ?_
    refine wp_seq ?_
    refine wp_region_lit ?_
    refine lV (Value.slice none 0 0) he27 rfl rfl (wanted_plain rfl _) (rn_mv rfl (he27.op rfl) w) ?_
    intro a28 he28
    clear he27 a27
    refine lV (Value.slice none 0 0) he28 rfl rfl (wanted_plain rfl _) (rn_asg rfl (he28.op rfl) w) ?_
    intro a29 he29
    clear he28 a28
    refine wpList_nil ?_
    refine then_ok ?_
    refine wp_ret ?_
    try simp only [Exit.then, Exit.inBlock]
    exact ret_env rfl he29 rfl (row_said (own_nil _ _) rfl hH.new)

set_option linter.unusedSimpArgs false in
set_option maxRecDepth 100000 in
set_option maxHeartbeats 1600000 in
theorem Concat3 (p : Nat) (A0 A1 A2 : Option Addr) (n0 n1 n2 c0 c1 c2 b0 b1 b2 : Nat) (l0 l1 l2 : List Ce) (w : World) (hB : Blk w p 22 #[.slice A0 n0 c0, .slice A1 n1 c1, .slice A2 n2 c2]) (h0 : RdC w b0 A0 n0 l0) (h1 : RdC w b1 A1 n1 l1) (h2 : RdC w b2 A2 n2 l2) (k0 : n0 ≤ 100000) (k1 : n1 ≤ 100000) (k2 : n2 ≤ 100000) :
    Calls Tryd.prog 52 #[.slice (some ⟨p, 0, none⟩) 3 3] w (RowSaid (l0 ++ l1 ++ l2) w) := by
  refine calls_args (vl := [Value.slice (some ⟨p, 0, none⟩) 3 3]) 36 Tryd.func52 rfl Tryd.ntmps52 (by kernel_rfl) (fun a he => ?_)
  have he0 : Env 36 [(0, Value.slice (some ⟨p, 0, none⟩) 3 3)] a := he
  clear he
  have hH := Hp.start w
  refine wp_seq ?_
  refine wp_region_lit ?_
  refine lV (Value.slice none 0 0) he0 rfl rfl (wanted_plain rfl _) (rn_asg rfl (he0.op rfl) w) ?_
  intro a1 he1
  clear he0 a
  refine wpList_nil ?_
  refine then_ok ?_
  refine wp_seq ?_
  refine wp_region_lit ?_
  refine lV (Value.int .i64 0) he1 rfl rfl (wanted_plain rfl _) (rn_asg rfl (he1.op rfl) w) ?_
  intro a2 he2
  clear he1 a1
  refine wpList_nil ?_
  refine then_ok ?_
  refine wp_seq ?_
  refine wp_seq ?_
  refine wp_region_lit ?_
  refine lV (Value.slice (some ⟨p, 0, none⟩) 3 3) he2 rfl rfl (wanted_plain rfl _) (rn_mv rfl (he2.op rfl) w) ?_
  intro a3 he3
  clear he2 a2
  refine lV (Value.int .i64 3) he3 rfl rfl (wanted_plain rfl _) (rn_lenS3 rfl (he3.op rfl) w) ?_
  intro a4 he4
  clear he3 a3
  refine lV (Value.int .i64 0) he4 rfl rfl (wanted_plain rfl _) (rn_mv rfl (he4.op rfl) w) ?_
  intro a5 he5
  clear he4 a4
  refine wpList_nil ?_
  refine then_ok ?_
  refine wp_block ?_
  refine wp_loop_rounds 4 ?_
  refine round_one ?_
  refine wp_seq ?_
  refine wp_region_lit ?_
  refine lV (Value.bool true) he5 rfl rfl (wanted_plain rfl _) (rn_lss rfl (he5.op rfl) (he5.op rfl) (by decide) w) ?_
  intro a6 he6
  clear he5 a5
  refine wpList_nil ?_
  refine then_ok ?_
  refine wp_seq ?_
  refine wp_cond_true (he6.op rfl) ?_
  refine wp_skip ?_
  refine then_ok ?_
  refine wp_seq ?_
  refine wp_block ?_
  refine wp_seq ?_
  refine wp_region_lit ?_
  refine lV (Value.pointer (some ⟨p, 0, none⟩)) he6 rfl rfl (wanted_plain rfl _) (rn_idxS (i := 0) rfl (he6.op rfl) (he6.op rfl) (by decide) w) ?_
  intro a7 he7
  clear he6 a6
  refine lV (Value.slice A0 n0 c0) he7 rfl rfl (wanted_plain rfl _) (rn_ldS rfl (he7.op rfl) (hB.fr hH.new (fun h => h)) rfl) ?_
  intro a8 he8
  clear he7 a7
  refine lV (Value.slice A0 n0 c0) he8 rfl rfl (wanted_plain rfl _) (rn_asg rfl (he8.op rfl) w) ?_
  intro a9 he9
  clear he8 a8
  refine wpList_nil ?_
  refine then_ok ?_
  refine wp_seq ?_
  refine wp_region_lit ?_
  refine lV (Value.int .i64 0) he9 rfl rfl (wanted_plain rfl _) (rn_mv rfl (he9.op rfl) w) ?_
  intro a10 he10
  clear he9 a9
  refine lV (Value.slice A0 n0 c0) he10 rfl rfl (wanted_plain rfl _) (rn_mv rfl (he10.op rfl) w) ?_
  intro a11 he11
  clear he10 a10
  refine lV (Value.int .i64 (n0 : Nat)) he11 rfl rfl (wanted_plain rfl _) (rn_lenC rfl (he11.op rfl) w) ?_
  intro a12 he12
  clear he11 a11
  refine lV (Value.int .i64 ((n0 : Nat) : Int)) he12 rfl rfl (wanted_plain rfl _) (rn_add1 rfl (he12.op rfl) (he12.op rfl) (by rw [IntWalk.i64_in _ ⟨by omega, by omega⟩]; omega) w) ?_
  intro a13 he13
  clear he12 a12
  refine lV (Value.int .i64 ((n0 : Nat) : Int)) he13 rfl rfl (wanted_plain rfl _) (rn_asg rfl (he13.op rfl) w) ?_
  intro a14 he14
  clear he13 a13
  refine wpList_nil ?_
  refine then_ok ?_
  refine wp_seq ?_
  refine wp_region_lit ?_
  refine lV (Value.int .i64 ((n0 : Nat) : Int)) he14 rfl rfl (wanted_plain rfl _) (rn_mv rfl (he14.op rfl) w) ?_
  intro a15 he15
  clear he14 a14
  refine lV (Value.bool false) he15 rfl rfl (wanted_plain rfl _) (rn_lss rfl (he15.op rfl) (he15.op rfl) (decide_eq_false (by omega)) w) ?_
  intro a16 he16
  clear he15 a15
  refine wpList_nil ?_
  refine then_ok ?_
  refine wp_cond_false (he16.op rfl) ?_
  refine wp_skip ?_
  refine block_ok ?_
  refine then_ok ?_
  refine wp_region_lit ?_
  refine lV (Value.int .i64 1) he16 rfl rfl (wanted_plain rfl _) (rn_add1 rfl (he16.op rfl) (he16.op rfl) (by decide) w) ?_
  intro a17 he17
  clear he16 a16
  refine lV (Value.int .i64 1) he17 rfl rfl (wanted_plain rfl _) (rn_mv rfl (he17.op rfl) w) ?_
  intro a18 he18
  clear he17 a17
  refine wpList_nil ?_
  refine then_ok ?_
  have he19 : Env 36 [(11, Value.int .i64 1), (3, Value.int .i64 ((n0 : Nat) : Int)), (10, Value.int .i64 3), (9, Value.slice (some ⟨p, 0, none⟩) 3 3), (0, Value.slice (some ⟨p, 0, none⟩) 3 3)] a18 := he18.mem ⟨rfl, rfl, rfl, rfl, rfl, trivial⟩
  clear he18
  as_aux_lemma =>
    refine round_one ?_
    refine wp_seq ?_
    refine wp_region_lit ?_
    refine lV (Value.bool true) he19 rfl rfl (wanted_plain rfl _) (rn_lss rfl (he19.op rfl) (he19.op rfl) (by decide) w) ?_
    intro a20 he20
    clear he19 a18
    refine wpList_nil ?_
    refine then_ok ?_
    refine wp_seq ?_
    refine wp_cond_true (he20.op rfl) ?_
    refine wp_skip ?_
    refine then_ok ?_
    refine wp_seq ?_
    refine wp_block ?_
    refine wp_seq ?_
    refine wp_region_lit ?_
    refine lV (Value.pointer (some ⟨p, 1, none⟩)) he20 rfl rfl (wanted_plain rfl _) (rn_idxS (i := 1) rfl (he20.op rfl) (he20.op rfl) (by decide) w) ?_
    intro a21 he21
    clear he20 a20
    refine lV (Value.slice A1 n1 c1) he21 rfl rfl (wanted_plain rfl _) (rn_ldS rfl (he21.op rfl) (hB.fr hH.new (fun h => h)) rfl) ?_
    intro a22 he22
    clear he21 a21
    refine lV (Value.slice A1 n1 c1) he22 rfl rfl (wanted_plain rfl _) (rn_asg rfl (he22.op rfl) w) ?_
    intro a23 he23
    clear he22 a22
    refine wpList_nil ?_
    refine then_ok ?_
    refine wp_seq ?_
    refine wp_region_lit ?_
    refine lV (Value.int .i64 ((n0 : Nat) : Int)) he23 rfl rfl (wanted_plain rfl _) (rn_mv rfl (he23.op rfl) w) ?_
    intro a24 he24
    clear he23 a23
    refine lV (Value.slice A1 n1 c1) he24 rfl rfl (wanted_plain rfl _) (rn_mv rfl (he24.op rfl) w) ?_
    intro a25 he25
    clear he24 a24
    refine lV (Value.int .i64 (n1 : Nat)) he25 rfl rfl (wanted_plain rfl _) (rn_lenC rfl (he25.op rfl) w) ?_
    intro a26 he26
    clear he25 a25
    refine lV (Value.int .i64 ((n0 + n1 : Nat) : Int)) he26 rfl rfl (wanted_plain rfl _) (rn_add1 rfl (he26.op rfl) (he26.op rfl) (by rw [IntWalk.i64_in _ ⟨by omega, by omega⟩]; omega) w) ?_
    intro a27 he27
    clear he26 a26
    refine lV (Value.int .i64 ((n0 + n1 : Nat) : Int)) he27 rfl rfl (wanted_plain rfl _) (rn_asg rfl (he27.op rfl) w) ?_
    intro a28 he28
    clear he27 a27
    refine wpList_nil ?_
    refine then_ok ?_
    refine wp_seq ?_
    refine wp_region_lit ?_
    refine lV (Value.int .i64 ((n0 + n1 : Nat) : Int)) he28 rfl rfl (wanted_plain rfl _) (rn_mv rfl (he28.op rfl) w) ?_
    intro a29 he29
    clear he28 a28
    refine lV (Value.bool false) he29 rfl rfl (wanted_plain rfl _) (rn_lss rfl (he29.op rfl) (he29.op rfl) (decide_eq_false (by omega)) w) ?_
    intro a30 he30
    clear he29 a29
    refine wpList_nil ?_
    refine then_ok ?_
    refine wp_cond_false (he30.op rfl) ?_
    refine wp_skip ?_
    refine block_ok ?_
    refine then_ok ?_
    refine wp_region_lit ?_
    refine lV (Value.int .i64 2) he30 rfl rfl (wanted_plain rfl _) (rn_add1 rfl (he30.op rfl) (he30.op rfl) (by decide) w) ?_
    intro a31 he31
    clear he30 a30
    refine lV (Value.int .i64 2) he31 rfl rfl (wanted_plain rfl _) (rn_mv rfl (he31.op rfl) w) ?_
    intro a32 he32
    clear he31 a31
    refine wpList_nil ?_
    refine then_ok ?_
    have he33 : Env 36 [(11, Value.int .i64 2), (3, Value.int .i64 ((n0 + n1 : Nat) : Int)), (10, Value.int .i64 3), (9, Value.slice (some ⟨p, 0, none⟩) 3 3), (0, Value.slice (some ⟨p, 0, none⟩) 3 3)] a32 := he32.mem ⟨rfl, rfl, rfl, rfl, rfl, trivial⟩
    clear he32
    as_aux_lemma =>
      refine round_one ?_
      refine wp_seq ?_
      refine wp_region_lit ?_
      refine lV (Value.bool true) he33 rfl rfl (wanted_plain rfl _) (rn_lss rfl (he33.op rfl) (he33.op rfl) (by decide) w) ?_
      intro a34 he34
      clear he33 a32
      refine wpList_nil ?_
      refine then_ok ?_
      refine wp_seq ?_
      refine wp_cond_true (he34.op rfl) ?_
      refine wp_skip ?_
      refine then_ok ?_
      refine wp_seq ?_
      refine wp_block ?_
      refine wp_seq ?_
      refine wp_region_lit ?_
      refine lV (Value.pointer (some ⟨p, 2, none⟩)) he34 rfl rfl (wanted_plain rfl _) (rn_idxS (i := 2) rfl (he34.op rfl) (he34.op rfl) (by decide) w) ?_
      intro a35 he35
      clear he34 a34
      refine lV (Value.slice A2 n2 c2) he35 rfl rfl (wanted_plain rfl _) (rn_ldS rfl (he35.op rfl) (hB.fr hH.new (fun h => h)) rfl) ?_
      intro a36 he36
      clear he35 a35
      refine lV (Value.slice A2 n2 c2) he36 rfl rfl (wanted_plain rfl _) (rn_asg rfl (he36.op rfl) w) ?_
      intro a37 he37
      clear he36 a36
      refine wpList_nil ?_
      refine then_ok ?_
      refine wp_seq ?_
      refine wp_region_lit ?_
      refine lV (Value.int .i64 ((n0 + n1 : Nat) : Int)) he37 rfl rfl (wanted_plain rfl _) (rn_mv rfl (he37.op rfl) w) ?_
      intro a38 he38
      clear he37 a37
      refine lV (Value.slice A2 n2 c2) he38 rfl rfl (wanted_plain rfl _) (rn_mv rfl (he38.op rfl) w) ?_
      intro a39 he39
      clear he38 a38
      refine lV (Value.int .i64 (n2 : Nat)) he39 rfl rfl (wanted_plain rfl _) (rn_lenC rfl (he39.op rfl) w) ?_
      intro a40 he40
      clear he39 a39
      refine lV (Value.int .i64 ((n0 + n1 + n2 : Nat) : Int)) he40 rfl rfl (wanted_plain rfl _) (rn_add1 rfl (he40.op rfl) (he40.op rfl) (by rw [IntWalk.i64_in _ ⟨by omega, by omega⟩]; omega) w) ?_
      intro a41 he41
      clear he40 a40
      refine lV (Value.int .i64 ((n0 + n1 + n2 : Nat) : Int)) he41 rfl rfl (wanted_plain rfl _) (rn_asg rfl (he41.op rfl) w) ?_
      intro a42 he42
      clear he41 a41
      refine wpList_nil ?_
      refine then_ok ?_
      refine wp_seq ?_
      refine wp_region_lit ?_
      refine lV (Value.int .i64 ((n0 + n1 + n2 : Nat) : Int)) he42 rfl rfl (wanted_plain rfl _) (rn_mv rfl (he42.op rfl) w) ?_
      intro a43 he43
      clear he42 a42
      refine lV (Value.bool false) he43 rfl rfl (wanted_plain rfl _) (rn_lss rfl (he43.op rfl) (he43.op rfl) (decide_eq_false (by omega)) w) ?_
      intro a44 he44
      clear he43 a43
      refine wpList_nil ?_
      refine then_ok ?_
      refine wp_cond_false (he44.op rfl) ?_
      refine wp_skip ?_
      refine block_ok ?_
      refine then_ok ?_
      refine wp_region_lit ?_
      refine lV (Value.int .i64 3) he44 rfl rfl (wanted_plain rfl _) (rn_add1 rfl (he44.op rfl) (he44.op rfl) (by decide) w) ?_
      intro a45 he45
      clear he44 a44
      refine lV (Value.int .i64 3) he45 rfl rfl (wanted_plain rfl _) (rn_mv rfl (he45.op rfl) w) ?_
      intro a46 he46
      clear he45 a45
      refine wpList_nil ?_
      refine then_ok ?_
      have he47 : Env 36 [(11, Value.int .i64 3), (3, Value.int .i64 ((n0 + n1 + n2 : Nat) : Int)), (10, Value.int .i64 3), (9, Value.slice (some ⟨p, 0, none⟩) 3 3), (0, Value.slice (some ⟨p, 0, none⟩) 3 3)] a46 := he46.mem ⟨rfl, rfl, rfl, rfl, rfl, trivial⟩
      clear he46
      as_aux_lemma =>
        refine round_one ?_
        refine wp_seq ?_
        refine wp_region_lit ?_
        refine lV (Value.bool false) he47 rfl rfl (wanted_plain rfl _) (rn_lss rfl (he47.op rfl) (he47.op rfl) (by decide) w) ?_
        intro a48 he48
        clear he47 a46
        refine wpList_nil ?_
        refine then_ok ?_
        refine wp_seq ?_
        refine wp_cond_false (he48.op rfl) ?_
        refine wp_exit ?_
        simp only [Exit.then, Exit.inBlock, if_true]
        refine wp_seq ?_
        refine wp_region_lit ?_
        refine lV (Value.int .i64 ((n0 + n1 + n2 : Nat) : Int)) he48 rfl rfl (wanted_plain rfl _) (rn_mv rfl (he48.op rfl) w) ?_
        intro a49 he49
        clear he48 a48
        have hzhog := hH.new.size
        refine lCx he49 rfl rfl Tryd.func61 (by kernel_rfl) rfl rfl (wanted_plain rfl _) rfl (Grow_nil (n0 + n1 + n2) (by omega) w) ?_
        rintro _ w50 ⟨⟨Ag, cg, rfl, hog⟩, hn⟩
        replace hog := own_base hog (fun k_ hk_ => Nat.le_trans hzhog (own_blk hog k_ hk_))
        clear hzhog
        refine ⟨_, rfl, ?_⟩
        intro a51 he51
        have hH50 := hH.call hn
        clear he49 a49 hH
        clear hn
        refine lV (Value.slice Ag ([]).length cg) he51 rfl rfl (wanted_plain rfl _) (rn_asg rfl (he51.op rfl) w50) ?_
        intro a52 he52
        clear he51 a51
        refine wpList_nil ?_
        refine then_ok ?_
        have he53 : Env 36 [(6, Value.slice Ag ([]).length cg), (0, Value.slice (some ⟨p, 0, none⟩) 3 3)] a52 := he52.mem ⟨rfl, rfl, trivial⟩
        clear he52
        have hown : OwnC _ w.heap.size _ _ _ := hog
        clear hog
        refine wp_seq ?_
        refine wp_seq ?_
        refine wp_region_lit ?_
        refine lV (Value.slice (some ⟨p, 0, none⟩) 3 3) he53 rfl rfl (wanted_plain rfl _) (rn_mv rfl (he53.op rfl) w50) ?_
        intro a54 he54
        clear he53 a52
        refine lV (Value.int .i64 3) he54 rfl rfl (wanted_plain rfl _) (rn_lenS3 rfl (he54.op rfl) w50) ?_
        intro a55 he55
        clear he54 a54
        refine lV (Value.int .i64 0) he55 rfl rfl (wanted_plain rfl _) (rn_mv rfl (he55.op rfl) w50) ?_
        intro a56 he56
        clear he55 a55
        refine wpList_nil ?_
        refine then_ok ?_
        refine wp_block ?_
        refine wp_loop_rounds 4 ?_
        refine round_one ?_
        refine wp_seq ?_
        refine wp_region_lit ?_
        refine lV (Value.bool true) he56 rfl rfl (wanted_plain rfl _) (rn_lss rfl (he56.op rfl) (he56.op rfl) (by decide) w50) ?_
        intro a57 he57
        clear he56 a56
        refine wpList_nil ?_
        refine then_ok ?_
        refine wp_seq ?_
        refine wp_cond_true (he57.op rfl) ?_
        refine wp_skip ?_
        refine then_ok ?_
        refine wp_seq ?_
        refine wp_block ?_
        refine wp_seq ?_
        refine wp_region_lit ?_
        refine lV (Value.pointer (some ⟨p, 0, none⟩)) he57 rfl rfl (wanted_plain rfl _) (rn_idxS (i := 0) rfl (he57.op rfl) (he57.op rfl) (by decide) w50) ?_
        intro a58 he58
        clear he57 a57
        refine lV (Value.slice A0 n0 c0) he58 rfl rfl (wanted_plain rfl _) (rn_ldS rfl (he58.op rfl) (hB.fr hH50.new (fun h => h)) rfl) ?_
        intro a59 he59
        clear he58 a58
        refine lV (Value.slice A0 n0 c0) he59 rfl rfl (wanted_plain rfl _) (rn_asg rfl (he59.op rfl) w50) ?_
        intro a60 he60
        clear he59 a59
        refine wpList_nil ?_
        refine then_ok ?_
        refine wp_region_lit ?_
        refine lV (Value.slice Ag ([]).length cg) he60 rfl rfl (wanted_plain rfl _) (rn_mv rfl (he60.op rfl) w50) ?_
        intro a61 he61
        clear he60 a60
        refine lV (Value.slice A0 n0 c0) he61 rfl rfl (wanted_plain rfl _) (rn_mv rfl (he61.op rfl) w50) ?_
        intro a62 he62
        clear he61 a61
        refine lEx he62 rfl rfl (wanted_plain rfl _) (rx_append hown (h0.new hH50.new) rfl (he62.op rfl) (he62.op rfl) (by simp only [List.length_nil]; omega) hH50.new.size) ?_
        rintro vx0 wx0 ⟨hox0, hgx0, horx0⟩
        have hHx0 := hH50.ownC hown hgx0 (Nat.le_refl _) (by kernel_rfl)
        intro a63 he63
        clear he62 a62
        clear hown hgx0 horx0
        have hown := hox0
        clear hox0
        refine lV (vx0) he63 rfl rfl (wanted_plain rfl _) (rn_asg rfl (he63.op rfl) wx0) ?_
        intro a64 he64
        clear he63 a63
        refine wpList_nil ?_
        refine block_ok ?_
        refine then_ok ?_
        refine wp_region_lit ?_
        refine lV (Value.int .i64 1) he64 rfl rfl (wanted_plain rfl _) (rn_add1 rfl (he64.op rfl) (he64.op rfl) (by decide) wx0) ?_
        intro a65 he65
        clear he64 a64
        refine lV (Value.int .i64 1) he65 rfl rfl (wanted_plain rfl _) (rn_mv rfl (he65.op rfl) wx0) ?_
        intro a66 he66
        clear he65 a65
        refine wpList_nil ?_
        refine then_ok ?_
        have he67 : Env 36 [(27, Value.int .i64 1), (6, vx0), (26, Value.int .i64 3), (25, Value.slice (some ⟨p, 0, none⟩) 3 3), (0, Value.slice (some ⟨p, 0, none⟩) 3 3)] a66 := he66.mem ⟨rfl, rfl, rfl, rfl, rfl, trivial⟩
        clear he66
        as_aux_lemma =>
          refine round_one ?_
          refine wp_seq ?_
          refine wp_region_lit ?_
          refine lV (Value.bool true) he67 rfl rfl (wanted_plain rfl _) (rn_lss rfl (he67.op rfl) (he67.op rfl) (by decide) wx0) ?_
          intro a68 he68
          clear he67 a66
          refine wpList_nil ?_
          refine then_ok ?_
          refine wp_seq ?_
          refine wp_cond_true (he68.op rfl) ?_
          refine wp_skip ?_
          refine then_ok ?_
          refine wp_seq ?_
          refine wp_block ?_
          refine wp_seq ?_
          refine wp_region_lit ?_
          refine lV (Value.pointer (some ⟨p, 1, none⟩)) he68 rfl rfl (wanted_plain rfl _) (rn_idxS (i := 1) rfl (he68.op rfl) (he68.op rfl) (by decide) wx0) ?_
          intro a69 he69
          clear he68 a68
          refine lV (Value.slice A1 n1 c1) he69 rfl rfl (wanted_plain rfl _) (rn_ldS rfl (he69.op rfl) (hB.fr hHx0.new (fun h => h)) rfl) ?_
          intro a70 he70
          clear he69 a69
          refine lV (Value.slice A1 n1 c1) he70 rfl rfl (wanted_plain rfl _) (rn_asg rfl (he70.op rfl) wx0) ?_
          intro a71 he71
          clear he70 a70
          refine wpList_nil ?_
          refine then_ok ?_
          refine wp_region_lit ?_
          refine lV (vx0) he71 rfl rfl (wanted_plain rfl _) (rn_mv rfl (he71.op rfl) wx0) ?_
          intro a72 he72
          clear he71 a71
          refine lV (Value.slice A1 n1 c1) he72 rfl rfl (wanted_plain rfl _) (rn_mv rfl (he72.op rfl) wx0) ?_
          intro a73 he73
          clear he72 a72
          refine lEx he73 rfl rfl (wanted_plain rfl _) (rx_append hown (h1.new hHx0.new) rfl (he73.op rfl) (he73.op rfl) (by simp only [List.length_nil]; omega) hHx0.new.size) ?_
          rintro vx1 wx1 ⟨hox1, hgx1, horx1⟩
          have hHx1 := hHx0.ownC hown hgx1 (Nat.le_refl _) (by kernel_rfl)
          intro a74 he74
          clear he73 a73
          clear hown hgx1 horx1
          have hown := hox1
          clear hox1
          refine lV (vx1) he74 rfl rfl (wanted_plain rfl _) (rn_asg rfl (he74.op rfl) wx1) ?_
          intro a75 he75
          clear he74 a74
          refine wpList_nil ?_
          refine block_ok ?_
          refine then_ok ?_
          refine wp_region_lit ?_
          refine lV (Value.int .i64 2) he75 rfl rfl (wanted_plain rfl _) (rn_add1 rfl (he75.op rfl) (he75.op rfl) (by decide) wx1) ?_
          intro a76 he76
          clear he75 a75
          refine lV (Value.int .i64 2) he76 rfl rfl (wanted_plain rfl _) (rn_mv rfl (he76.op rfl) wx1) ?_
          intro a77 he77
          clear he76 a76
          refine wpList_nil ?_
          refine then_ok ?_
          have he78 : Env 36 [(27, Value.int .i64 2), (6, vx1), (26, Value.int .i64 3), (25, Value.slice (some ⟨p, 0, none⟩) 3 3), (0, Value.slice (some ⟨p, 0, none⟩) 3 3)] a77 := he77.mem ⟨rfl, rfl, rfl, rfl, rfl, trivial⟩
          clear he77
          as_aux_lemma =>
            refine round_one ?_
            refine wp_seq ?_
            refine wp_region_lit ?_
            refine lV (Value.bool true) he78 rfl rfl (wanted_plain rfl _) (rn_lss rfl (he78.op rfl) (he78.op rfl) (by decide) wx1) ?_
            intro a79 he79
            clear he78 a77
            refine wpList_nil ?_
            refine then_ok ?_
            refine wp_seq ?_
            refine wp_cond_true (he79.op rfl) ?_
            refine wp_skip ?_
            refine then_ok ?_
            refine wp_seq ?_
            refine wp_block ?_
            refine wp_seq ?_
            refine wp_region_lit ?_
            refine lV (Value.pointer (some ⟨p, 2, none⟩)) he79 rfl rfl (wanted_plain rfl _) (rn_idxS (i := 2) rfl (he79.op rfl) (he79.op rfl) (by decide) wx1) ?_
            intro a80 he80
            clear he79 a79
            refine lV (Value.slice A2 n2 c2) he80 rfl rfl (wanted_plain rfl _) (rn_ldS rfl (he80.op rfl) (hB.fr hHx1.new (fun h => h)) rfl) ?_
            intro a81 he81
            clear he80 a80
            refine lV (Value.slice A2 n2 c2) he81 rfl rfl (wanted_plain rfl _) (rn_asg rfl (he81.op rfl) wx1) ?_
            intro a82 he82
            clear he81 a81
            refine wpList_nil ?_
            refine then_ok ?_
            refine wp_region_lit ?_
            refine lV (vx1) he82 rfl rfl (wanted_plain rfl _) (rn_mv rfl (he82.op rfl) wx1) ?_
            intro a83 he83
            clear he82 a82
            refine lV (Value.slice A2 n2 c2) he83 rfl rfl (wanted_plain rfl _) (rn_mv rfl (he83.op rfl) wx1) ?_
            intro a84 he84
            clear he83 a83
            refine lEx he84 rfl rfl (wanted_plain rfl _) (rx_append hown (h2.new hHx1.new) rfl (he84.op rfl) (he84.op rfl) (by simp only [List.length_nil]; omega) hHx1.new.size) ?_
            rintro vx2 wx2 ⟨hox2, hgx2, horx2⟩
            have hHx2 := hHx1.ownC hown hgx2 (Nat.le_refl _) (by kernel_rfl)
            intro a85 he85
            clear he84 a84
            clear hown hgx2 horx2
            have hown := hox2
            clear hox2
            refine lV (vx2) he85 rfl rfl (wanted_plain rfl _) (rn_asg rfl (he85.op rfl) wx2) ?_
            intro a86 he86
            clear he85 a85
            refine wpList_nil ?_
            refine block_ok ?_
            refine then_ok ?_
            refine wp_region_lit ?_
            refine lV (Value.int .i64 3) he86 rfl rfl (wanted_plain rfl _) (rn_add1 rfl (he86.op rfl) (he86.op rfl) (by decide) wx2) ?_
            intro a87 he87
            clear he86 a86
            refine lV (Value.int .i64 3) he87 rfl rfl (wanted_plain rfl _) (rn_mv rfl (he87.op rfl) wx2) ?_
            intro a88 he88
            clear he87 a87
            refine wpList_nil ?_
            refine then_ok ?_
            have he89 : Env 36 [(27, Value.int .i64 3), (6, vx2), (26, Value.int .i64 3), (25, Value.slice (some ⟨p, 0, none⟩) 3 3), (0, Value.slice (some ⟨p, 0, none⟩) 3 3)] a88 := he88.mem ⟨rfl, rfl, rfl, rfl, rfl, trivial⟩
            clear he88
            as_aux_lemma =>
              refine round_one ?_
              refine wp_seq ?_
              refine wp_region_lit ?_
              refine lV (Value.bool false) he89 rfl rfl (wanted_plain rfl _) (rn_lss rfl (he89.op rfl) (he89.op rfl) (by decide) wx2) ?_
              intro a90 he90
              clear he89 a88
              refine wpList_nil ?_
              refine then_ok ?_
              refine wp_seq ?_
              refine wp_cond_false (he90.op rfl) ?_
              refine wp_exit ?_
              simp only [Exit.then, Exit.inBlock, if_true]
              refine wp_seq ?_
              refine wp_region_lit ?_
              refine lV (vx2) he90 rfl rfl (wanted_plain rfl _) (rn_mv rfl (he90.op rfl) wx2) ?_
              intro a91 he91
              clear he90 a90
              refine lV (vx2) he91 rfl rfl (wanted_plain rfl _) (rn_asg rfl (he91.op rfl) wx2) ?_
              intro a92 he92
              clear he91 a91
              refine wpList_nil ?_
              refine then_ok ?_
              refine wp_ret ?_
              try simp only [Exit.then, Exit.inBlock]
              exact ret_env rfl he92 rfl (row_said hown (by simp) hHx2.new)

end Go.Proofs.YtjcpdldaimebbaaDoor
