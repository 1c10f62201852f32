/-
  Fixing cells, one after the other: the specification's Fix.
-/
import Derived.Test.YtjcpdldaimebbaaDoorCText
import Derived.Test.YtjcpdldaimebbaaDoorCList
namespace Go.Proofs.YtjcpdldaimebbaaDoor
open Go.RowKit

theorem fixG_at (l : List Ce) : ∀ (q : Option Pn) (k : Nat) (h : k < l.length), (fixG q l)[k]'(by rw [fix_len]; exact h) = fixC (if _h0 : k = 0 then q else wideP ((fixG q l)[k - 1]'(by rw [fix_len]; omega))) (l[k]) (headS (l.drop (k + 1))) := by
  induction l with
  | nil => intro q k h; simp at h
  | cons c t ih =>
    intro q k h
    cases k with
    | zero => simp [fixG]
    | succ k =>
      have hk : k < t.length := by simpa using h
      have h1 := ih (wideP (fixC q c (headS t))) k hk
      simp only [fixG, List.getElem_cons_succ, h1]
      congr 1
      by_cases h0 : k = 0
      · subst h0
        simp
      · rw [dif_neg h0, dif_neg (by omega)]
        congr 1
        obtain ⟨j, rfl⟩ : ∃ j, k = j + 1 := ⟨k - 1, by omega⟩
        simp
theorem headS_drop (l : List Ce) (k : Nat) : headS (l.drop k) = if h : k < l.length then decide ((l[k]).wd = 0) else false := by
  by_cases h : k < l.length
  · rw [dif_pos h, List.drop_eq_getElem_cons h]
    rfl
  · rw [dif_neg h, List.drop_eq_nil_of_le (by omega)]
    rfl
theorem take_snoc (F : List Ce) (k : Nat) (h : k < F.length) : F.take (k + 1) = F.take k ++ [F[k]] := by
  rw [List.take_add_one, List.getElem?_eq_getElem h]
  rfl
/-- A block of one cell reads as a slice of it. -/
theorem rdc_one (w : World) (c : Ce) : RdC (w.alloc (.cells c.cs 60)) w.heap.size (some ⟨w.heap.size, 0, none⟩) 1 [c] := by
  refine ⟨rfl, fun _ => ⟨0, rfl, by simp, fun j hj => ?_⟩⟩
  rw [Nat.zero_add, (Blk.new w 60 c.cs).cell j]
  have : flatC [c] = c.ls := by simp [flatC]
  rw [this]
  show c.cs[j]? = c.ls[j]?
  simp [Ce.cs, Ce.ls]

theorem infoC : (Tryd.prog.info? 60).map (fun i => (i.zero, i.size, i.bytes)) = some (some (.agg zeroCe.cs), 16, 64) := by kernel_rfl

theorem one_ls (l : List Ce) : ∀ u ∈ flatC l, u.oneCell' = true := by
  intro u hu
  obtain ⟨c, _, h⟩ := List.mem_flatMap.1 hu
  simp only [Ce.ls, List.mem_cons, List.not_mem_nil, or_false] at h
  rcases h with h | h | h | h | h | h | h | h | h | h | h | h | h | h | h | h <;> subst h <;> rfl

/-- append of cells onto a row of the call's own -/
theorem appC {w : World} {ops : Array Oper} {rest : List Oper} {o : Oper} {a : Act} {Q : Exit → Act → World → Prop} (hgd : o.guard = none) (s x : Operand)
    (ho : o.op = .call { callee := .builtin .append, args := #[s, x], argTypes := #[22, 22] })
    (base : Nat) (v : Value) (n : Nat) (l : List Ce) (hs : a.eval s = v) (hown : w.ownsRow base 60 16 v n (flatC l))
    (b p : Nat) (m c : Nat) (news : List Ce) (hx : a.eval x = .slice (some ⟨b, p, none⟩) m c) (hr : RdC w b (some ⟨b, p, none⟩) m news)
    (hnm : n + m ≤ 1000000000) (hbase : base ≤ w.heap.size)
    (h : ∀ v' w', w'.ownsRow base 60 16 v' (n + m) (flatC (l ++ news)) → w.grownBy w' v.ownBlock → wpList Tryd.prog ops Q rest (a.put o.dst v') w') : wpList Tryd.prog ops Q (o :: rest) a w := by
  obtain ⟨i0, hi, hz0, hz1, hz2⟩ := info_parts infoC
  refine wpList_append_own w hgd s x 22 ho base 60 i0 _ 16 64 Tryd.underlying22 hi hz0 hz1 hz2 rfl (by omega) v n (flatC l) hs hown ⟨b, p, none⟩ m c (flatC news) hx (by rw [flatC_len, hr.1]) (fun j u hu => ?_) (one_ls news) (by unfold maxLen; omega) (by omega) hbase (fun v' w' h2 h3 _ => h v' w' (by rw [flatC_append]; exact h2) h3)
  have hj : j < m * 16 := by
    have := (List.getElem?_eq_some_iff.1 hu).1
    rw [flatC_len, hr.1] at this
    exact this
  obtain ⟨o', ho', _, hc⟩ := hr.2 (by omega)
  obtain rfl : p = o' := by simpa using ho'
  rw [addr_add, hc j hj, hu]

end Go.Proofs.YtjcpdldaimebbaaDoor
