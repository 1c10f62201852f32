/-
  A region that draws its order, and whose last operations wait for all others: what holds up to them need not hold behind them.
-/
import Derived.Test.YtlpjhaghphmbeaaDoorA10
namespace Go.Proofs.YtlpjhaghphmbeaaDoor
open Go.RowKit

/-- The operations from number k on wait for all before; the others wait for earlier ones alone. -/
def tailB (md : Region.Mode) (ops : Array Oper) (k : Nat) : Bool := (List.range ops.size).all fun j => match ops[j]? with
  | none => true
  | some o => if j < k then (o.after.all fun e => !Region.binds md e || Nat.blt e.on j) && (match o.guard with | none => true | some g => Nat.blt g.1 k) else (List.range k).all fun i => o.after.any fun e => Region.binds md e && Nat.beq e.on i
def headOps (ops : Array Oper) (k : Nat) : Array Oper := (ops.toList.take k).toArray
def headQ (Q : Exit → Act → World → Prop) (T : Act → World → Prop) : Exit → Act → World → Prop
  | .normal => T
  | e => Q e
section
variable {P : Program} {md : Region.Mode} {ops : Array Oper} {Q : Exit → Act → World → Prop} {T : Act → World → Prop} {S : World → Prop} {k : Nat}
theorem opwp_head {o : Oper} {a : Act} {w : World} {K : Act → World → Prop} (h : o.wp P a w K (headQ Q T)) : o.wp P a w K Q := by
  unfold Oper.wp at *
  generalize (execOp a.eval o).run P w = r at *
  cases r with
  | ok n w' =>
    cases n <;> simp only [Oper.upon] at h ⊢ <;>
      first
        | exact h
        | exact Calls.mono h (fun e w'' he => by cases e <;> exact he)
  | halt x w' => cases x <;> simp only [Oper.upon] at h ⊢ <;> exact h
theorem head_at (ops : Array Oper) (k i : Nat) (hi : i < k) : (headOps ops k)[i]? = ops[i]? := by
  simp [headOps, hi]
theorem head_yield (ops : Array Oper) (k i : Nat) (hi : i < k) (t : Array Value) : yielded (headOps ops k) t i = yielded ops t i := by
  unfold yielded
  rw [head_at ops k i hi]
theorem head_wanted {o : Oper} (hg : (match o.guard with | none => true | some g => Nat.blt g.1 k) = true) (t : Array Value) : Region.wanted o (yielded (headOps ops k) t) = Region.wanted o (yielded ops t) := by
  unfold Region.wanted
  cases hgd : o.guard with
  | none => rfl
  | some g =>
    rw [hgd] at hg
    have hk : g.1 < k := by simpa [Nat.blt_eq] using hg
    obtain ⟨j, b⟩ := g
    simp only
    rw [head_yield ops k j hk]
theorem wpOp_head (ht : tailB md ops k = true) {i : Nat} (hi : i < k) {K : Act → World → Prop} {a : Act} {w : World} (h : wpOp P (headOps ops k) (headQ Q T) i K a w) : wpOp P ops Q i K a w := by
  unfold wpOp at h ⊢
  rw [head_at ops k i hi] at h
  cases ho : ops[i]? with
  | none => rw [ho] at h; exact h
  | some o =>
    rw [ho] at h
    simp only at h ⊢
    have hn : i < ops.size := (Array.getElem?_eq_some_iff.1 ho).1
    have ht1 := List.all_eq_true.1 ht i (List.mem_range.2 hn)
    rw [ho] at ht1
    simp only [if_pos hi, Bool.and_eq_true] at ht1
    rw [head_wanted ht1.2] at h
    split
    · rename_i hw
      rw [if_pos hw] at h
      exact h.imp opwp_head id
    · rename_i hw
      rw [if_neg hw] at h
      exact h
theorem wpAny_more {f : Nat} {L : Array Bool} {a : Act} {w : World} (h : wpAny P md ops Q f L a w) : wpAny P md ops Q (f + 1) L a w := by
  induction f generalizing L a w with
  | zero => exact ⟨fun _ => h.2, by rw [h.1]; simp⟩
  | succ f ih => exact ⟨h.1, fun i hi => wpOp_mono (fun a' w' h' => ih h') (h.2 i hi)⟩
theorem wpAny_plus {f : Nat} {L : Array Bool} {a : Act} {w : World} (g : Nat) (h : wpAny P md ops Q f L a w) : wpAny P md ops Q (g + f) L a w := by
  induction g with
  | zero => rw [Nat.zero_add]; exact h
  | succ g ih => rw [show g + 1 + f = (g + f) + 1 by omega]; exact wpAny_more ih

theorem ready_iff (md : Region.Mode) (ops : Array Oper) (L : Array Bool) (i : Nat) : i ∈ Region.ready md ops L ↔ i < ops.size ∧ L.getD i true = false ∧ ∃ o, ops[i]? = some o ∧ ∀ e ∈ o.after.toList, Region.binds md e = true → L.getD e.on false = true := by
  unfold Region.ready
  rw [List.mem_filter, List.mem_range]
  constructor
  · rintro ⟨h1, h2⟩
    simp only [Bool.and_eq_true, Bool.not_eq_true'] at h2
    refine ⟨h1, h2.1, ops[i], Array.getElem?_eq_getElem h1, fun e he hb => ?_⟩
    have h3 := h2.2
    rw [Array.getElem?_eq_getElem h1, Option.map_some, Option.getD_some, ← Array.all_toList, List.all_eq_true] at h3
    have := h3 e he
    rw [hb] at this
    simpa using this
  · rintro ⟨h1, h2, o, h3, h4⟩
    refine ⟨h1, ?_⟩
    simp only [Bool.and_eq_true, Bool.not_eq_true']
    refine ⟨h2, ?_⟩
    rw [h3, Option.map_some, Option.getD_some, ← Array.all_toList, List.all_eq_true]
    intro e he
    cases hb : Region.binds md e with
    | false => rfl
    | true => rw [h4 e he hb]; rfl
theorem getD_left (l0 : Array Bool) (m i : Nat) (d : Bool) (hi : i < l0.size) : (l0 ++ Array.replicate m false).getD i d = l0.getD i d := by
  simp [Array.getD_eq_getD_getElem?, Array.getElem?_append_left hi]
theorem getD_sw (l : Array Bool) (i : Nat) (hi : i < l.size) (d e : Bool) : l.getD i d = l.getD i e := by
  simp [Array.getD_eq_getD_getElem?, Array.getElem?_eq_getElem hi]
theorem set_left (l0 : Array Bool) (m i : Nat) (hi : i < l0.size) : (l0 ++ Array.replicate m false).setIfInBounds i true = l0.setIfInBounds i true ++ Array.replicate m false := by
  apply Array.ext'
  simp [hi]
theorem tail_edges (ht : tailB md ops k = true) {i : Nat} {o : Oper} (ho : ops[i]? = some o) (hi : i < k) : ∀ e ∈ o.after.toList, Region.binds md e = true → e.on < i := by
  have hn : i < ops.size := (Array.getElem?_eq_some_iff.1 ho).1
  have ht1 := List.all_eq_true.1 ht i (List.mem_range.2 hn)
  rw [ho] at ht1
  simp only [if_pos hi, Bool.and_eq_true] at ht1
  have h := ht1.1
  rw [← Array.all_toList, List.all_eq_true] at h
  intro e he hb
  have := h e he
  rw [hb] at this
  simpa [Nat.blt_eq] using this
theorem tail_waits (ht : tailB md ops k = true) {i : Nat} {o : Oper} (ho : ops[i]? = some o) (hi : ¬ i < k) (q : Nat) (hq : q < k) : ∃ e ∈ o.after.toList, Region.binds md e = true ∧ e.on = q := by
  have hn : i < ops.size := (Array.getElem?_eq_some_iff.1 ho).1
  have ht1 := List.all_eq_true.1 ht i (List.mem_range.2 hn)
  rw [ho] at ht1
  simp only [if_neg hi] at ht1
  have h := List.all_eq_true.1 ht1 q (List.mem_range.2 hq)
  rw [← Array.any_toList, List.any_eq_true] at h
  obtain ⟨e, he, h2⟩ := h
  simp only [Bool.and_eq_true] at h2
  exact ⟨e, he, h2.1, Nat.eq_of_beq_eq_true h2.2⟩
theorem wpAny_head (hk : k ≤ ops.size) (ht : tailB md ops k = true) (hT : ∀ a w, T a w → wpAny P md ops Q (ops.size - k) (Array.replicate k true ++ Array.replicate (ops.size - k) false) a w) :
    ∀ (f : Nat) (l0 : Array Bool) (a : Act) (w : World), l0.size = k → wpAnyH P md (headOps ops k) (headQ Q T) S f l0 a w → wpAny P md ops Q (f + (ops.size - k)) (l0 ++ Array.replicate (ops.size - k) false) a w := by
  have hsz : (headOps ops k).size = k := by simp [headOps]; omega
  have full : ∀ (f : Nat) (l0 : Array Bool) (a : Act) (w : World), l0.size = k → (∀ q, q < k → l0.getD q true = true) → wpAnyH P md (headOps ops k) (headQ Q T) S f l0 a w → wpAny P md ops Q (f + (ops.size - k)) (l0 ++ Array.replicate (ops.size - k) false) a w := by
    intro f l0 a w hl hall h
    have e : l0 = Array.replicate k true := by
      apply Array.ext
      · simp [hl]
      · intro i h1 h2
        have := hall i (by omega)
        rw [Array.getD_eq_getD_getElem?, Array.getElem?_eq_getElem h1] at this
        simpa using this
    have hr : Region.ready md (headOps ops k) l0 = [] := by
      apply List.eq_nil_iff_forall_not_mem.2
      intro i hi
      obtain ⟨h1, h2, _⟩ := (ready_iff _ _ _ _).1 hi
      rw [hall i (by omega)] at h2
      cases h2
    have hTn : T a w := by
      cases f with
      | zero => exact h.2
      | succ f => exact h.1 hr
    subst e
    exact wpAny_plus f (hT a w hTn)
  intro f
  induction f with
  | zero =>
    intro l0 a w hl h
    refine full 0 l0 a w hl (fun q hq => ?_) h
    -- the least that is not listed would be ready
    cases hb : l0.getD q true with
    | true => rfl
    | false =>
      obtain ⟨m, ⟨hm1, hm2⟩, hmin⟩ := least (fun q => q < k ∧ l0.getD q true = false) q ⟨hq, hb⟩
      exfalso
      have hmem : m ∈ Region.ready md (headOps ops k) l0 := by
        have hmn : m < ops.size := by omega
        refine (ready_iff _ _ _ _).2 ⟨by omega, hm2, ops[m], by rw [head_at ops k m hm1, Array.getElem?_eq_getElem hmn], fun e he hbi => ?_⟩
        have hlt := tail_edges ht (Array.getElem?_eq_getElem hmn) hm1 e he hbi
        cases hc : l0.getD e.on true with
        | true => rw [getD_sw l0 e.on (by omega) false true]; exact hc
        | false => have := hmin e.on ⟨by omega, hc⟩; omega
      rw [h.1] at hmem
      cases hmem
  | succ f ih =>
    intro l0 a w hl h
    by_cases hall : ∀ q, q < k → l0.getD q true = true
    · exact full (f + 1) l0 a w hl hall h
    · have hex : ∃ q, q < k ∧ l0.getD q true = false := by
        apply Classical.byContradiction
        intro hne
        exact hall (fun q hq => by
          cases hb : l0.getD q true with
          | true => rfl
          | false => exact absurd ⟨q, hq, hb⟩ hne)
      obtain ⟨q, hq1, hq2⟩ := hex
      obtain ⟨m, ⟨hm1, hm2⟩, hmin⟩ := least (fun q => q < k ∧ l0.getD q true = false) q ⟨hq1, hq2⟩
      have hmn : m < ops.size := by omega
      rw [show f + 1 + (ops.size - k) = (f + (ops.size - k)) + 1 by omega]
      refine ⟨fun h0 => ?_, fun i hi => ?_⟩
      · exfalso
        have hmem : m ∈ Region.ready md ops (l0 ++ Array.replicate (ops.size - k) false) := by
          refine (ready_iff _ _ _ _).2 ⟨hmn, by rw [getD_left _ _ _ _ (by omega)]; exact hm2, ops[m], Array.getElem?_eq_getElem hmn, fun e he hbi => ?_⟩
          have hlt := tail_edges ht (Array.getElem?_eq_getElem hmn) hm1 e he hbi
          rw [getD_left _ _ _ _ (by omega)]
          cases hc : l0.getD e.on true with
          | true => rw [getD_sw l0 e.on (by omega) false true]; exact hc
          | false => have := hmin e.on ⟨by omega, hc⟩; omega
        rw [h0] at hmem
        cases hmem
      · obtain ⟨h1, h2, o, h3, h4⟩ := (ready_iff _ _ _ _).1 hi
        by_cases hik : i < k
        · have hmem : i ∈ Region.ready md (headOps ops k) l0 := by
            rw [getD_left _ _ _ _ (by omega)] at h2
            refine (ready_iff _ _ _ _).2 ⟨by omega, h2, o, by rw [head_at ops k i hik]; exact h3, fun e he hbi => ?_⟩
            have hlt := tail_edges ht h3 hik e he hbi
            have := h4 e he hbi
            rwa [getD_left _ _ _ _ (by omega)] at this
          refine wpOp_mono (fun a' w' h' => ?_) (wpOp_head ht hik (h.2 i hmem))
          rw [set_left _ _ _ (by omega)]
          exact ih _ a' w' (by simpa using hl) h'.2
        · exfalso
          obtain ⟨e, he, hbi, heq⟩ := tail_waits ht h3 hik q hq1
          have := h4 e he hbi
          rw [heq, getD_left _ _ _ _ (by omega), getD_sw l0 q (by omega) false true, hq2] at this
          cases this
end
/-- A region whose operations from number k on wait for all others: S is held up to them. -/
theorem wp_region_split {P : Program} {Q : Exit → Act → World → Prop} {a : Act} {w : World} {id : Nat} {ops : Array Oper} {S : World → Prop} (k : Nat) (T : Act → World → Prop) (hm : P.follows .mixedOrders = true) (hk : Nat.ble k ops.size = true) (ht : tailB .any ops k = true)
    (h : wpAnyH P .any (headOps ops k) (headQ Q T) S k (Array.replicate k false) a w.drew) (hT : ∀ a w, T a w → wpAny P .any ops Q (ops.size - k) (Array.replicate k true ++ Array.replicate (ops.size - k) false) a w) : (Code.region id ops true).wp P Q a w := by
  have hk := Nat.le_of_ble_eq_true hk
  refine wp_region_any hm ?_
  have := wpAny_head hk ht hT k (Array.replicate k false) a w.drew (by simp) h
  rw [show k + (ops.size - k) = ops.size by omega] at this
  have e : Array.replicate k false ++ Array.replicate (ops.size - k) false = Array.replicate ops.size false := by
    apply Array.ext'
    simp only [Array.toList_append, Array.toList_replicate, List.replicate_append_replicate]
    congr 1
    omega
  rw [e] at this
  exact this
theorem wp_region_split1 {P : Program} {Q : Exit → Act → World → Prop} {a : Act} {w : World} {id : Nat} {ops : Array Oper} {S : World → Prop} (k m : Nat) (hm : P.follows .mixedOrders = true) (hkm : Nat.beq (k + m) ops.size = true) (ht : tailB .any ops k = true)
    (h : wpAnyH P .any (headOps ops k) (headQ Q (fun a w => wpAny P .any ops Q m (Array.replicate k true ++ Array.replicate m false) a w)) S k (Array.replicate k false) a w.drew) : (Code.region id ops true).wp P Q a w := by
  have e := Nat.eq_of_beq_eq_true hkm
  refine wp_region_split k _ hm (by rw [Nat.ble_eq]; omega) ht h (fun a w h => ?_)
  have e2 : ops.size - k = m := by omega
  rw [e2]
  exact h
theorem head_done {P : Program} {Q : Exit → Act → World → Prop} {a : Act} {w : World} {md : Region.Mode} {ops : Array Oper} {m : Nat} {L : Array Bool} (h : wpAnyH P md ops Q (fun _ => True) m L a w) : headQ Q (fun a w => wpAny P md ops Q m L a w) .normal a w := wpAny_of_held _ _ _ _ h
end Go.Proofs.YtlpjhaghphmbeaaDoor
