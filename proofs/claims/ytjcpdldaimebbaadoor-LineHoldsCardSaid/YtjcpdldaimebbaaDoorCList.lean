/-
  Slices of cells.
-/
import Derived.Test.YtjcpdldaimebbaaDoorCLeaf
namespace Go.Proofs.YtjcpdldaimebbaaDoor
open Go.RowKit

/-- The cells of cells, one behind the other. -/
def flatC (l : List Ce) : List Value := l.flatMap Ce.ls
theorem ls_len (c : Ce) : c.ls.length = 16 := rfl
theorem flatC_nil : flatC [] = [] := rfl
theorem flatC_cons (c : Ce) (l : List Ce) : flatC (c :: l) = c.ls ++ flatC l := rfl
theorem flatC_append (l m : List Ce) : flatC (l ++ m) = flatC l ++ flatC m := by simp [flatC]
theorem flatC_len (l : List Ce) : (flatC l).length = l.length * 16 := by
  induction l with
  | nil => rfl
  | cons c l ih => rw [flatC_cons, List.length_append, ls_len, ih, List.length_cons]; omega
theorem flatC_at (l : List Ce) (i j : Nat) (hi : i < l.length) (hj : j < 16) : (flatC l)[i * 16 + j]? = (l[i]).ls[j]? := by
  induction l generalizing i with
  | nil => simp at hi
  | cons c l ih =>
    rw [flatC_cons]
    cases i with
    | zero => rw [List.getElem?_append_left (by rw [ls_len]; omega)]; simp
    | succ i =>
      rw [List.getElem?_append_right (by rw [ls_len]; omega), ls_len, show (i + 1) * 16 + j - 16 = i * 16 + j by omega, ih i (by simpa using hi)]
      rfl

/-- The slice with address A and length n holds the cells l; they lie in block b, if there are any. -/
def RdC (w : World) (b : Nat) (A : Option Addr) (n : Nat) (l : List Ce) : Prop :=
  l.length = n ∧ (0 < n → ∃ o, A = some ⟨b, o, none⟩ ∧ b < w.heap.size ∧ ∀ j, j < n * 16 → w.cell? ⟨b, o + j, none⟩ = (flatC l)[j]?)
section
variable {S : Nat → Prop} {w w' : World} {b n : Nat} {A : Option Addr} {l : List Ce}
theorem RdC.nil (w : World) (b : Nat) (A : Option Addr) : RdC w b A 0 [] := ⟨rfl, fun h => absurd h (by omega)⟩
theorem RdC.fr (h : RdC w b A n l) (hf : Fr S w w') (hn : ¬ S b) : RdC w' b A n l := by
  refine ⟨h.1, fun h0 => ?_⟩
  obtain ⟨o, rfl, hb, hc⟩ := h.2 h0
  exact ⟨o, rfl, Nat.lt_of_lt_of_le hb hf.size, fun j hj => (hf.cell (p := ⟨b, o + j, none⟩) hb hn).trans (hc j hj)⟩
theorem RdC.new (h : RdC w b A n l) (hf : New w w') : RdC w' b A n l := h.fr hf (fun h => h)
theorem RdC.drew (h : RdC w b A n l) : RdC w.drew b A n l := h
theorem RdC.drewN (h : RdC w b A n l) (k : Nat) : RdC (w.drewN k) b A n l := h
/-- The sixteen cells of a cell in memory. -/
def At16 (w : World) (b o : Nat) (c : Ce) : Prop := w.cell? ⟨b, o, none⟩ = some (.int .i32 c.r) ∧ w.cell? ⟨b, o + 1, none⟩ = some (.int .i32 c.m0) ∧ w.cell? ⟨b, o + 2, none⟩ = some (.int .i32 c.m1) ∧ w.cell? ⟨b, o + 3, none⟩ = some (.int .i32 c.m2) ∧ w.cell? ⟨b, o + 4, none⟩ = some (.int .i64 c.wd) ∧ w.cell? ⟨b, o + 5, none⟩ = some (.int .i64 c.p.fore.k) ∧ w.cell? ⟨b, o + 6, none⟩ = some (.int .u8 c.p.fore.i) ∧ w.cell? ⟨b, o + 7, none⟩ = some (.int .u8 c.p.fore.r) ∧ w.cell? ⟨b, o + 8, none⟩ = some (.int .u8 c.p.fore.g) ∧ w.cell? ⟨b, o + 9, none⟩ = some (.int .u8 c.p.fore.b) ∧ w.cell? ⟨b, o + 10, none⟩ = some (.int .i64 c.p.back.k) ∧ w.cell? ⟨b, o + 11, none⟩ = some (.int .u8 c.p.back.i) ∧ w.cell? ⟨b, o + 12, none⟩ = some (.int .u8 c.p.back.r) ∧ w.cell? ⟨b, o + 13, none⟩ = some (.int .u8 c.p.back.g) ∧ w.cell? ⟨b, o + 14, none⟩ = some (.int .u8 c.p.back.b) ∧ w.cell? ⟨b, o + 15, none⟩ = some (.int .u8 c.p.fl)
theorem RdC.at_ {o : Nat} (h : RdC w b (some ⟨b, o, none⟩) n l) {i : Nat} (hi : i < n) : At16 w b (o + i * 16) (l[i]'(by rw [h.1]; exact hi)) := by
  obtain ⟨o', ho, _, hc⟩ := h.2 (by omega)
  obtain rfl : o = o' := by simpa using ho
  have hl : i < l.length := by rw [h.1]; exact hi
  have key : ∀ j, j < 16 → w.cell? ⟨b, o + i * 16 + j, none⟩ = (l[i]).ls[j]? := fun j hj => by
    rw [Nat.add_assoc, hc (i * 16 + j) (by omega), flatC_at l i j hl hj]
  exact ⟨key 0 (by omega), key 1 (by omega), key 2 (by omega), key 3 (by omega), key 4 (by omega), key 5 (by omega), key 6 (by omega), key 7 (by omega), key 8 (by omega), key 9 (by omega), key 10 (by omega), key 11 (by omega), key 12 (by omega), key 13 (by omega), key 14 (by omega), key 15 (by omega)⟩
theorem RdC.base (h : RdC w b A n l) (hn : 0 < n) : ∃ o, A = some ⟨b, o, none⟩ := by
  obtain ⟨o, h, _⟩ := h.2 hn
  exact ⟨o, h⟩
theorem RdC.of_own {base : Nat} {e : TypeId} {c : Nat} (h : w.ownsRow base e 16 (.slice A n c) n (flatC l)) (hl : l.length = n) (hA : ∀ k, (Value.slice A n c).ownBlock = some k → k = b) : RdC w b A n l := by
  refine ⟨hl, fun hn => ?_⟩
  rcases h.2 with ⟨_, h0⟩ | ⟨g, cap, cur, hv, _, hh, _, _, _, ht⟩
  · omega
  · injection hv with hA'
    subst hA'
    have hg : g = b := hA g rfl
    subst hg
    refine ⟨0, rfl, Blk.lt hh, fun j hj => ?_⟩
    rw [Blk.cell hh, ← ht, List.getElem?_take, if_pos (by omega)]
    simp
end

theorem eq_cells (x y : Ce) (c : Bool) (h : decide (x = y) = c) : ∀ w, (Op.equalIn 10000 60 (.agg x.cs) (.agg y.cs)).run Tryd.prog w = .ok c w := fun w => by
  rw [eq_cell, h]

theorem take_eq_step {la lb : List Ce} {k : Nat} (ha : k < la.length) (hb : k < lb.length) (h : la.take k = lb.take k) (e : la[k] = lb[k]) : la.take (k + 1) = lb.take (k + 1) := by
  rw [List.take_add_one, List.take_add_one, List.getElem?_eq_getElem ha, List.getElem?_eq_getElem hb, h, e]

end Go.Proofs.YtjcpdldaimebbaaDoor
