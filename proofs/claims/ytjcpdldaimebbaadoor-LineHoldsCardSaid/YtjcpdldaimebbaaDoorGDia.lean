/-
  Regions that draw their order, where some operations make memory in whatever order: the ways meet again.
-/
import Derived.Test.YtjcpdldaimebbaaDoorGReg
import Derived.Test.YtjcpdldaimebbaaDoorCStore
namespace Go.Proofs.YtjcpdldaimebbaaDoor
open Go.RowKit

section
variable {P : Program} {md : Region.Mode} {ops : Array Oper} {Q : Exit → Act → World → Prop} {a : Act} {w : World} {S : World → Prop} {fuel : Nat} {listed : Array Bool}

theorem put_comm (a : Act) {x y : Nat} (h : x ≠ y) (u v : Value) : (a.put (some x) u).put (some y) v = (a.put (some y) v).put (some x) u := by
  simp only [Act.put]
  congr 1
  exact Array.setIfInBounds_comm _ _ h
theorem set_comm (l : Array Bool) {x y : Nat} (h : x ≠ y) : (l.setIfInBounds x true).setIfInBounds y true = (l.setIfInBounds y true).setIfInBounds x true := Array.setIfInBounds_comm _ _ h
theorem wp_valw {o : Oper} {v : Value} {w' : World} {K : Act → World → Prop} (h : (execOp a.eval o).run P w = .ok (.value v) w') (hk : K (a.put o.dst v) w') : Oper.wp P o a w K Q := by
  unfold Oper.wp
  rw [h]
  exact hk
/-- What an operation does in a frame and a world, whatever follows. -/
def Does (P : Program) (Q : Exit → Act → World → Prop) (o : Oper) (a : Act) (w : World) (post : Value → World → Prop) : Prop := ∀ K : Act → World → Prop, (∀ v w', post v w' → K (a.put o.dst v) w') → Oper.wp P o a w K Q
theorem Does.val {o : Oper} {v : Value} {w' : World} {post : Value → World → Prop} (h : (execOp a.eval o).run P w = .ok (.value v) w') (hp : post v w') : Does P Q o a w post := fun _ hK => wp_valw h (hK _ _ hp)
theorem stepH {rs : List Nat} (hr : Region.ready md ops listed = rs) (hne : rs ≠ [])
    (h : ∀ i ∈ rs, ∃ o, ops[i]? = some o ∧ Region.wanted o (yielded ops a.tmps) = true ∧ ∃ post, Does P Q o a w post ∧ ∀ v w', post v w' → S w' ∧ wpAnyH P md ops Q S fuel (listed.setIfInBounds i true) (a.put o.dst v) w') : wpAnyH P md ops Q S (fuel + 1) listed a w :=
  wpAnyH_all hr hne (fun i hi => by
    obtain ⟨o, ho, hw, post, hd, hn⟩ := h i hi
    exact wpOp_step ho (fun K hK => by
      rw [if_pos hw]
      exact hd K (fun v w' hp => hK _ _ (hn v w' hp))))

/-- Three operations in whatever order, each of which makes the same new block. -/
theorem three {i j k x y z : Nat} {oi oj ok : Oper} {ob : Obj} (hij : i ≠ j) (hik : i ≠ k) (hjk : j ≠ k) (hxy : x ≠ y) (hxz : x ≠ z) (hyz : y ≠ z)
    (hi : ops[i]? = some oi) (hj : ops[j]? = some oj) (hk : ops[k]? = some ok) (gi : oi.guard = none) (gj : oj.guard = none) (gk : ok.guard = none) (di : oi.dst = some x) (dj : oj.dst = some y) (dk : ok.dst = some z)
    (ri : ∀ (a : Act) (w : World), (execOp a.eval oi).run P w = .ok (.value (.pointer (some ⟨w.heap.size, 0, none⟩))) (w.alloc ob))
    (rj : ∀ (a : Act) (w : World), (execOp a.eval oj).run P w = .ok (.value (.pointer (some ⟨w.heap.size, 0, none⟩))) (w.alloc ob))
    (rk : ∀ (a : Act) (w : World), (execOp a.eval ok).run P w = .ok (.value (.pointer (some ⟨w.heap.size, 0, none⟩))) (w.alloc ob))
    (r0 : Region.ready md ops listed = [i, j, k]) (r1 : Region.ready md ops (listed.setIfInBounds i true) = [j, k]) (r2 : Region.ready md ops (listed.setIfInBounds j true) = [i, k]) (r3 : Region.ready md ops (listed.setIfInBounds k true) = [i, j])
    (r12 : Region.ready md ops ((listed.setIfInBounds i true).setIfInBounds j true) = [k]) (r13 : Region.ready md ops ((listed.setIfInBounds i true).setIfInBounds k true) = [j]) (r23 : Region.ready md ops ((listed.setIfInBounds j true).setIfInBounds k true) = [i])
    (hS : ∀ w w' : World, S w → New w w' → S w') (h0 : S w)
    (key : ∀ p q r : Nat, p ≠ q → p ≠ r → q ≠ r → w.heap.size ≤ p → w.heap.size ≤ q → w.heap.size ≤ r → p < w.heap.size + 3 → q < w.heap.size + 3 → r < w.heap.size + 3 → S (((w.alloc ob).alloc ob).alloc ob) →
      wpAnyH P md ops Q S fuel (((listed.setIfInBounds i true).setIfInBounds j true).setIfInBounds k true) (((a.put (some x) (.pointer (some ⟨p, 0, none⟩))).put (some y) (.pointer (some ⟨q, 0, none⟩))).put (some z) (.pointer (some ⟨r, 0, none⟩))) (((w.alloc ob).alloc ob).alloc ob)) :
    wpAnyH P md ops Q S (fuel + 3) listed a w := by
  have s1 : S (w.alloc ob) := hS _ _ h0 (Fr.alloc (Fr.refl _ _) _)
  have s2 : S ((w.alloc ob).alloc ob) := hS _ _ s1 (Fr.alloc (Fr.refl _ _) _)
  have s3 : S (((w.alloc ob).alloc ob).alloc ob) := hS _ _ s2 (Fr.alloc (Fr.refl _ _) _)
  have z1 : (w.alloc ob).heap.size = w.heap.size + 1 := by simp
  have z2 : ((w.alloc ob).alloc ob).heap.size = w.heap.size + 2 := by simp
  have Di : ∀ (a : Act) (w : World), Does P Q oi a w (fun v w' => v = .pointer (some ⟨w.heap.size, 0, none⟩) ∧ w' = w.alloc ob) := fun a w => Does.val (ri a w) ⟨rfl, rfl⟩
  have Dj : ∀ (a : Act) (w : World), Does P Q oj a w (fun v w' => v = .pointer (some ⟨w.heap.size, 0, none⟩) ∧ w' = w.alloc ob) := fun a w => Does.val (rj a w) ⟨rfl, rfl⟩
  have Dk : ∀ (a : Act) (w : World), Does P Q ok a w (fun v w' => v = .pointer (some ⟨w.heap.size, 0, none⟩) ∧ w' = w.alloc ob) := fun a w => Does.val (rk a w) ⟨rfl, rfl⟩
  have c1 := set_comm listed hij
  have c2 := set_comm listed hik
  have c3 := set_comm listed hjk
  refine stepH (fuel := fuel + 2) r0 (by simp) (fun n hn => ?_)
  rcases List.mem_cons.1 hn with rfl | hn
  · refine ⟨oi, hi, wanted_plain gi _, _, Di _ _, ?_⟩
    rintro v w' ⟨rfl, rfl⟩
    refine ⟨s1, stepH (fuel := fuel + 1) r1 (by simp) (fun m hm => ?_)⟩
    rw [di]
    rcases List.mem_cons.1 hm with rfl | hm
    · refine ⟨oj, hj, wanted_plain gj _, _, Dj _ _, ?_⟩
      rintro v w' ⟨rfl, rfl⟩
      refine ⟨s2, stepH (fuel := fuel) r12 (by simp) (fun l hl => ?_)⟩
      obtain rfl := List.mem_singleton.1 hl
      refine ⟨ok, hk, wanted_plain gk _, _, Dk _ _, ?_⟩
      rintro v w' ⟨rfl, rfl⟩
      rw [dj, dk]
      exact ⟨s3, key _ _ _ (by omega) (by omega) (by omega) (by omega) (by omega) (by omega) (by omega) (by omega) (by omega) s3⟩
    · obtain rfl := List.mem_singleton.1 hm
      refine ⟨ok, hk, wanted_plain gk _, _, Dk _ _, ?_⟩
      rintro v w' ⟨rfl, rfl⟩
      refine ⟨s2, stepH (fuel := fuel) r13 (by simp) (fun l hl => ?_)⟩
      obtain rfl := List.mem_singleton.1 hl
      refine ⟨oj, hj, wanted_plain gj _, _, Dj _ _, ?_⟩
      rintro v w' ⟨rfl, rfl⟩
      rw [dj, dk, put_comm _ (Ne.symm hyz), set_comm _ (Ne.symm hjk)]
      exact ⟨s3, key _ _ _ (by omega) (by omega) (by omega) (by omega) (by omega) (by omega) (by omega) (by omega) (by omega) s3⟩
  · rcases List.mem_cons.1 hn with rfl | hn
    · refine ⟨oj, hj, wanted_plain gj _, _, Dj _ _, ?_⟩
      rintro v w' ⟨rfl, rfl⟩
      refine ⟨s1, stepH (fuel := fuel + 1) r2 (by simp) (fun m hm => ?_)⟩
      rw [dj]
      rcases List.mem_cons.1 hm with rfl | hm
      · refine ⟨oi, hi, wanted_plain gi _, _, Di _ _, ?_⟩
        rintro v w' ⟨rfl, rfl⟩
        refine ⟨s2, stepH (fuel := fuel) (rs := [k]) (by rw [← c1]; exact r12) (by simp) (fun l hl => ?_)⟩
        obtain rfl := List.mem_singleton.1 hl
        refine ⟨ok, hk, wanted_plain gk _, _, Dk _ _, ?_⟩
        rintro v w' ⟨rfl, rfl⟩
        rw [di, dk, put_comm _ (Ne.symm hxy), ← c1]
        exact ⟨s3, key _ _ _ (by omega) (by omega) (by omega) (by omega) (by omega) (by omega) (by omega) (by omega) (by omega) s3⟩
      · obtain rfl := List.mem_singleton.1 hm
        refine ⟨ok, hk, wanted_plain gk _, _, Dk _ _, ?_⟩
        rintro v w' ⟨rfl, rfl⟩
        refine ⟨s2, stepH (fuel := fuel) r23 (by simp) (fun l hl => ?_)⟩
        obtain rfl := List.mem_singleton.1 hl
        refine ⟨oi, hi, wanted_plain gi _, _, Di _ _, ?_⟩
        rintro v w' ⟨rfl, rfl⟩
        rw [di, dk, put_comm _ (Ne.symm hxz), put_comm _ (Ne.symm hxy), set_comm _ (Ne.symm hik), ← c1]
        exact ⟨s3, key _ _ _ (by omega) (by omega) (by omega) (by omega) (by omega) (by omega) (by omega) (by omega) (by omega) s3⟩
    · obtain rfl := List.mem_singleton.1 hn
      refine ⟨ok, hk, wanted_plain gk _, _, Dk _ _, ?_⟩
      rintro v w' ⟨rfl, rfl⟩
      refine ⟨s1, stepH (fuel := fuel + 1) r3 (by simp) (fun m hm => ?_)⟩
      rw [dk]
      rcases List.mem_cons.1 hm with rfl | hm
      · refine ⟨oi, hi, wanted_plain gi _, _, Di _ _, ?_⟩
        rintro v w' ⟨rfl, rfl⟩
        refine ⟨s2, stepH (fuel := fuel) (rs := [j]) (by rw [← c2]; exact r13) (by simp) (fun l hl => ?_)⟩
        obtain rfl := List.mem_singleton.1 hl
        refine ⟨oj, hj, wanted_plain gj _, _, Dj _ _, ?_⟩
        rintro v w' ⟨rfl, rfl⟩
        rw [di, dj, put_comm _ (Ne.symm hxz), put_comm _ (Ne.symm hyz), ← c2, set_comm _ (Ne.symm hjk)]
        exact ⟨s3, key _ _ _ (by omega) (by omega) (by omega) (by omega) (by omega) (by omega) (by omega) (by omega) (by omega) s3⟩
      · obtain rfl := List.mem_singleton.1 hm
        refine ⟨oj, hj, wanted_plain gj _, _, Dj _ _, ?_⟩
        rintro v w' ⟨rfl, rfl⟩
        refine ⟨s2, stepH (fuel := fuel) (rs := [i]) (by rw [← c3]; exact r23) (by simp) (fun l hl => ?_)⟩
        obtain rfl := List.mem_singleton.1 hl
        refine ⟨oi, hi, wanted_plain gi _, _, Di _ _, ?_⟩
        rintro v w' ⟨rfl, rfl⟩
        rw [di, dj, put_comm _ (Ne.symm hyz), put_comm _ (Ne.symm hxz), put_comm _ (Ne.symm hxy), ← c3, set_comm _ (Ne.symm hik), ← c1]
        exact ⟨s3, key _ _ _ (by omega) (by omega) (by omega) (by omega) (by omega) (by omega) (by omega) (by omega) (by omega) s3⟩

/-- Operation c behind operation i, and j beside them: I and J are what i and j make; c hands on what i has made. -/
theorem diamond {i c j x z y : Nat} {oi oc oj : Oper} {I J : Value → World → Prop} (hij : i ≠ j) (hcj : c ≠ j) (hxy : x ≠ y) (hzy : z ≠ y)
    (hi : ops[i]? = some oi) (hc : ops[c]? = some oc) (hj : ops[j]? = some oj) (di : oi.dst = some x) (dc : oc.dst = some z) (dj : oj.dst = some y)
    (wi : Region.wanted oi (yielded ops a.tmps) = true) (wi2 : ∀ u, Region.wanted oi (yielded ops (a.put (some y) u).tmps) = true)
    (wj : Region.wanted oj (yielded ops a.tmps) = true) (wj2 : ∀ u, Region.wanted oj (yielded ops (a.put (some x) u).tmps) = true) (wj3 : ∀ u u', Region.wanted oj (yielded ops ((a.put (some x) u).put (some z) u').tmps) = true)
    (wc : ∀ u, Region.wanted oc (yielded ops (a.put (some x) u).tmps) = true) (wc2 : ∀ u u', Region.wanted oc (yielded ops ((a.put (some x) u).put (some y) u').tmps) = true)
    (Di : ∀ w, Does P Q oi a w (fun v w' => New w w' ∧ I v w')) (Di2 : ∀ u w, Does P Q oi (a.put (some y) u) w (fun v w' => New w w' ∧ I v w'))
    (Dj : ∀ w, Does P Q oj a w (fun v w' => New w w' ∧ J v w')) (Dj2 : ∀ u w, Does P Q oj (a.put (some x) u) w (fun v w' => New w w' ∧ J v w')) (Dj3 : ∀ u u' w, Does P Q oj ((a.put (some x) u).put (some z) u') w (fun v w' => New w w' ∧ J v w'))
    (Dc : ∀ u w, Does P Q oc (a.put (some x) u) w (fun v w' => v = u ∧ New w w')) (Dc2 : ∀ u u' w, Does P Q oc ((a.put (some x) u).put (some y) u') w (fun v w' => v = u ∧ New w w'))
    (r0 : Region.ready md ops listed = [i, j]) (r1 : Region.ready md ops (listed.setIfInBounds i true) = [c, j]) (r2 : Region.ready md ops (listed.setIfInBounds j true) = [i])
    (r1c : Region.ready md ops ((listed.setIfInBounds i true).setIfInBounds c true) = [j]) (r1j : Region.ready md ops ((listed.setIfInBounds i true).setIfInBounds j true) = [c])
    (hI : ∀ v w w', I v w → New w w' → I v w') (hJ : ∀ v w w', J v w → New w w' → J v w')
    (hS : ∀ w w' : World, S w → New w w' → S w') (h0 : S w)
    (key : ∀ u u' w', S w' → New w w' → I u w' → J u' w' →
      wpAnyH P md ops Q S fuel (((listed.setIfInBounds i true).setIfInBounds c true).setIfInBounds j true) (((a.put (some x) u).put (some z) u).put (some y) u') w') :
    wpAnyH P md ops Q S (fuel + 3) listed a w := by
  have ntr : ∀ {a b c : World}, New a b → New b c → New a c := fun h k => Fr.trans h k (fun _ _ h => h)
  have c1 := set_comm listed hij
  refine stepH (fuel := fuel + 2) r0 (by simp) (fun n hn => ?_)
  rcases List.mem_cons.1 hn with rfl | hn
  · refine ⟨oi, hi, wi, _, Di _, ?_⟩
    rintro u w1 ⟨n1, i1⟩
    rw [di]
    refine ⟨hS _ _ h0 n1, stepH (fuel := fuel + 1) r1 (by simp) (fun m hm => ?_)⟩
    rcases List.mem_cons.1 hm with rfl | hm
    · refine ⟨oc, hc, wc _, _, Dc _ _, ?_⟩
      rintro v w2 ⟨rfl, n2⟩
      rw [dc]
      refine ⟨hS _ _ h0 (ntr n1 n2), stepH (fuel := fuel) r1c (by simp) (fun l hl => ?_)⟩
      obtain rfl := List.mem_singleton.1 hl
      refine ⟨oj, hj, wj3 _ _, _, Dj3 _ _ _, ?_⟩
      rintro u' w3 ⟨n3, j3⟩
      rw [dj]
      have s3 := hS _ _ h0 (ntr (ntr n1 n2) n3)
      exact ⟨s3, key _ _ _ s3 (ntr (ntr n1 n2) n3) (hI _ _ _ i1 (ntr n2 n3)) j3⟩
    · obtain rfl := List.mem_singleton.1 hm
      refine ⟨oj, hj, wj2 _, _, Dj2 _ _, ?_⟩
      rintro u' w2 ⟨n2, j2⟩
      rw [dj]
      refine ⟨hS _ _ h0 (ntr n1 n2), stepH (fuel := fuel) r1j (by simp) (fun l hl => ?_)⟩
      obtain rfl := List.mem_singleton.1 hl
      refine ⟨oc, hc, wc2 _ _, _, Dc2 _ _ _, ?_⟩
      rintro v w3 ⟨rfl, n3⟩
      rw [dc, put_comm _ (Ne.symm hzy), set_comm _ (Ne.symm hcj)]
      have s3 := hS _ _ h0 (ntr (ntr n1 n2) n3)
      exact ⟨s3, key _ _ _ s3 (ntr (ntr n1 n2) n3) (hI _ _ _ i1 (ntr n2 n3)) (hJ _ _ _ j2 n3)⟩
  · obtain rfl := List.mem_singleton.1 hn
    refine ⟨oj, hj, wj, _, Dj _, ?_⟩
    rintro u' w1 ⟨n1, j1⟩
    rw [dj]
    refine ⟨hS _ _ h0 n1, stepH (fuel := fuel + 1) r2 (by simp) (fun m hm => ?_)⟩
    obtain rfl := List.mem_singleton.1 hm
    refine ⟨oi, hi, wi2 _, _, Di2 _ _, ?_⟩
    rintro u w2 ⟨n2, i2⟩
    rw [di, put_comm _ (Ne.symm hxy), ← c1]
    refine ⟨hS _ _ h0 (ntr n1 n2), stepH (fuel := fuel) r1j (by simp) (fun l hl => ?_)⟩
    obtain rfl := List.mem_singleton.1 hl
    refine ⟨oc, hc, wc2 _ _, _, Dc2 _ _ _, ?_⟩
    rintro v w3 ⟨rfl, n3⟩
    rw [dc, put_comm _ (Ne.symm hzy), set_comm _ (Ne.symm hcj)]
    have s3 := hS _ _ h0 (ntr (ntr n1 n2) n3)
    exact ⟨s3, key _ _ _ s3 (ntr (ntr n1 n2) n3) (hI _ _ _ i2 n3) (hJ _ _ _ j1 (ntr n2 n3))⟩
end

end Go.Proofs.YtjcpdldaimebbaaDoor
