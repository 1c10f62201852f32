/-
  What walks by hand use, at whatever seat: frames and blocks that are variables, the steps of regions, data that lie apart.
-/
import Derived.Test.YtpebpjkhkgakfaaDoorTab
import Derived.OpenShut
import Derived.Laws.Cover4
import Derived.Laws.CopyRow
import Derived.Laws.OwnMore
import Derived.Laws.ResultCell
import Derived.Deep.RegionHeld
import Derived.Deep.CutRange
import Derived.OrdersHeld
import Derived.BigCall
import Derived.Conc.MuLone
import Derived.Deep.MidRow
import Derived.LoopN
import Derived.Deep.RegionWith
import Derived.Deep.DeepMust
import Derived.Deep.LoopGhost
import Derived.Deep.DeepCutAuto
import Derived.Deep.CutBlock
import Derived.Deep.RegionHeld3
import Derived.BigQuiet
namespace Go.Proofs.YtpebpjkhkgakfaaDoor
open Go.RowKit

/-- The row xs with ys laid from place i on. -/
def lay (xs : Array Value) (i : Nat) (ys : Array Value) : Array Value := (xs.toList.take i ++ ys.toList ++ xs.toList.drop (i + ys.size)).toArray
theorem fr_setRow (w : World) (g : Nat) (cs : Array Value) : Fr (fun k => k = g) w (w.setRow g cs) :=
  ⟨rfl, rfl, rfl, by simp, fun k _ hn => setRow_other w g k cs hn⟩


section
variable {P : Program} {md : Region.Mode} {ops : Array Oper} {Q : Exit → Act → World → Prop} {a : Act} {w : World} {S : World → Prop} {fuel : Nat} {listed : Array Bool}

theorem ev_same {k : Nat} (h : k < a.tmps.size) (v : Value) : (a.put (some k) v).eval (.tmp k) = v := by
  simp [Act.put, Act.eval, Array.getD, h]
theorem ev_ne {k j : Nat} (h : k ≠ j) (v : Value) : (a.put (some j) v).eval (.tmp k) = a.eval (.tmp k) := by
  simp only [Act.put, Act.eval, Array.getD_eq_getD_getElem?]
  rw [Array.getElem?_setIfInBounds_ne (Ne.symm h)]
theorem sz_put (j : Nat) (v : Value) : (a.put (some j) v).tmps.size = a.tmps.size := by
  simp [Act.put]
theorem ev_const (v : Value) : a.eval (.const v) = v := rfl
theorem abs_act {c : Code} (h : ∀ a', a' = a → c.wp P Q a' w) : c.wp P Q a w := h a rfl

theorem wanted_plain {o : Oper} (h : o.guard = none) (y : Nat → Option Bool) : Region.wanted o y = true := by simp [Region.wanted, h]
theorem yielded_bool {j k : Nat} {b : Bool} {oj : Oper} (hj : ops[j]? = some oj) (hd : oj.dst = some k) (hk : k < a.tmps.size) (hv : a.eval (.tmp k) = .bool b) : yielded ops a.tmps j = some b := by
  have h1 : a.tmps[k]? = some (.bool b) := by
    rw [Array.getElem?_eq_getElem hk]
    simp only [Act.eval, Array.getD, hk, dif_pos] at hv
    exact congrArg some hv
  simp [yielded, hj, hd, h1]
theorem wanted_guard {o : Oper} {j k : Nat} {b : Bool} {oj : Oper} (h : o.guard = some (j, b)) (hj : ops[j]? = some oj) (hd : oj.dst = some k) (hk : k < a.tmps.size) (hv : a.eval (.tmp k) = .bool b) : Region.wanted o (yielded ops a.tmps) = true := by
  simp [Region.wanted, h, yielded_bool hj hd hk hv]
theorem unwanted_guard {o : Oper} {j k : Nat} {b c : Bool} {oj : Oper} (h : o.guard = some (j, b)) (hj : ops[j]? = some oj) (hd : oj.dst = some k) (hk : k < a.tmps.size) (hv : a.eval (.tmp k) = .bool c) (hbc : c ≠ b) : Region.wanted o (yielded ops a.tmps) = false := by
  simp [Region.wanted, h, yielded_bool hj hd hk hv, hbc]

theorem wp_val {o : Oper} {v : Value} {K : Act → World → Prop} (h : (execOp a.eval o).run P w = .ok (.value v) w) (hk : K (a.put o.dst v) w) : Oper.wp P o a w K Q := by
  unfold Oper.wp
  rw [h]
  exact hk
theorem wp_callF {o : Oper} {f : FuncId} {xs : Array Operand} {ats : Array TypeId} {fn : Func} {c : Code} {K : Act → World → Prop} (hf : P.funcs[f]? = some fn) (hname : (fn.name == "runtime.NumGoroutine") = false) (hb : fn.body = some c)
    (ho : o.op = .call { callee := .value (.func f), args := xs, argTypes := ats }) {vs : Array Value} (hv : xs.map a.eval = vs)
    (hc : Calls P f vs w fun e w' => ∃ v, e = .returned v ∧ K (a.put o.dst v) w') : Oper.wp P o a w K Q := by
  obtain ⟨dst, op, ty, pos, after, guard⟩ := o
  simp only at ho
  subst ho
  unfold Oper.wp
  rw [execOp_call_go, MuLone.run_callFunc_enter hf hname hb, hv]
  have e : (#[] ++ vs ++ #[] : Array Value) = vs := by simp
  rw [e]
  refine Calls.mono hc ?_
  rintro e w' ⟨v, rfl, h⟩
  exact h

theorem allA {i : Nat} {o : Oper} (hr : Region.ready md ops listed = [i]) (ho : ops[i]? = some o) (hw : Region.wanted o (yielded ops a.tmps) = true)
    (h : ∀ K : Act → World → Prop, (∀ a' w', wpAny P md ops Q fuel (listed.setIfInBounds i true) a' w' → K a' w') → Oper.wp P o a w K Q) : wpAny P md ops Q (fuel + 1) listed a w :=
  wpAny_ready hr (by simp) (AllReady.cons ho (fun K hK => by rw [if_pos hw]; exact h K hK) AllReady.nil)
theorem allH {i : Nat} {o : Oper} (hr : Region.ready md ops listed = [i]) (ho : ops[i]? = some o) (hw : Region.wanted o (yielded ops a.tmps) = true)
    (h : ∀ K : Act → World → Prop, (∀ a' w', S w' → wpAnyH P md ops Q S fuel (listed.setIfInBounds i true) a' w' → K a' w') → Oper.wp P o a w K Q) : wpAnyH P md ops Q S (fuel + 1) listed a w :=
  wpAnyH_all hr (by simp) (fun j hj => by
    obtain rfl : j = i := by simpa using hj
    exact wpOp_step ho (fun K hK => by rw [if_pos hw]; exact h K (fun a w h1 h2 => hK a w ⟨h1, h2⟩)))
/-- One operation alone may come up, and yields a value in the world at hand: no goal 'Oper.wp' comes up (an elaborator that looks at one runs the operation). -/
theorem allH_val {i : Nat} {o : Oper} {v : Value} (hr : Region.ready md ops listed = [i]) (ho : ops[i]? = some o) (hw : Region.wanted o (yielded ops a.tmps) = true)
    (hrun : (execOp a.eval o).run P w = .ok (.value v) w) (hS : S w) (h : wpAnyH P md ops Q S fuel (listed.setIfInBounds i true) (a.put o.dst v) w) : wpAnyH P md ops Q S (fuel + 1) listed a w :=
  allH hr ho hw (fun _ hK => wp_val hrun (hK _ _ hS h))
end


section
variable {P : Program} {md : Region.Mode} {ops : Array Oper} {Q : Exit → Act → World → Prop} {a : Act} {w : World} {S : World → Prop} {fuel : Nat} {listed : Array Bool}

theorem put_comm (a : Act) {x y : Nat} (h : x ≠ y) (u v : Value) : (a.put (some x) u).put (some y) v = (a.put (some y) v).put (some x) u := by
  simp only [Act.put]
  congr 1
  exact Array.setIfInBounds_comm _ _ h
theorem set_comm (l : Array Bool) {x y : Nat} (h : x ≠ y) : (l.setIfInBounds x true).setIfInBounds y true = (l.setIfInBounds y true).setIfInBounds x true := Array.setIfInBounds_comm _ _ h
theorem wp_valw {o : Oper} {v : Value} {w' : World} {K : Act → World → Prop} (h : (execOp a.eval o).run P w = .ok (.value v) w') (hk : K (a.put o.dst v) w') : Oper.wp P o a w K Q := by
  unfold Oper.wp
  rw [h]
  exact hk
/-- What an operation does in a frame and a world, whatever follows. -/
def Does (P : Program) (Q : Exit → Act → World → Prop) (o : Oper) (a : Act) (w : World) (post : Value → World → Prop) : Prop := ∀ K : Act → World → Prop, (∀ v w', post v w' → K (a.put o.dst v) w') → Oper.wp P o a w K Q
theorem Does.val {o : Oper} {v : Value} {w' : World} {post : Value → World → Prop} (h : (execOp a.eval o).run P w = .ok (.value v) w') (hp : post v w') : Does P Q o a w post := fun _ hK => wp_valw h (hK _ _ hp)
theorem stepH {rs : List Nat} (hr : Region.ready md ops listed = rs) (hne : rs ≠ [])
    (h : ∀ i ∈ rs, ∃ o, ops[i]? = some o ∧ Region.wanted o (yielded ops a.tmps) = true ∧ ∃ post, Does P Q o a w post ∧ ∀ v w', post v w' → S w' ∧ wpAnyH P md ops Q S fuel (listed.setIfInBounds i true) (a.put o.dst v) w') : wpAnyH P md ops Q S (fuel + 1) listed a w :=
  wpAnyH_all hr hne (fun i hi => by
    obtain ⟨o, ho, hw, post, hd, hn⟩ := h i hi
    exact wpOp_step ho (fun K hK => by
      rw [if_pos hw]
      exact hd K (fun v w' hp => hK _ _ (hn v w' hp))))

/-- Three operations in whatever order, each of which makes the same new block. -/
theorem three {i j k x y z : Nat} {oi oj ok : Oper} {ob : Obj} (hij : i ≠ j) (hik : i ≠ k) (hjk : j ≠ k) (hxy : x ≠ y) (hxz : x ≠ z) (hyz : y ≠ z)
    (hi : ops[i]? = some oi) (hj : ops[j]? = some oj) (hk : ops[k]? = some ok) (gi : oi.guard = none) (gj : oj.guard = none) (gk : ok.guard = none) (di : oi.dst = some x) (dj : oj.dst = some y) (dk : ok.dst = some z)
    (ri : ∀ (a : Act) (w : World), (execOp a.eval oi).run P w = .ok (.value (.pointer (some ⟨w.heap.size, 0, none⟩))) (w.alloc ob))
    (rj : ∀ (a : Act) (w : World), (execOp a.eval oj).run P w = .ok (.value (.pointer (some ⟨w.heap.size, 0, none⟩))) (w.alloc ob))
    (rk : ∀ (a : Act) (w : World), (execOp a.eval ok).run P w = .ok (.value (.pointer (some ⟨w.heap.size, 0, none⟩))) (w.alloc ob))
    (r0 : Region.ready md ops listed = [i, j, k]) (r1 : Region.ready md ops (listed.setIfInBounds i true) = [j, k]) (r2 : Region.ready md ops (listed.setIfInBounds j true) = [i, k]) (r3 : Region.ready md ops (listed.setIfInBounds k true) = [i, j])
    (r12 : Region.ready md ops ((listed.setIfInBounds i true).setIfInBounds j true) = [k]) (r13 : Region.ready md ops ((listed.setIfInBounds i true).setIfInBounds k true) = [j]) (r23 : Region.ready md ops ((listed.setIfInBounds j true).setIfInBounds k true) = [i])
    (hS : ∀ w w' : World, S w → New w w' → S w') (h0 : S w)
    (key : ∀ p q r : Nat, p ≠ q → p ≠ r → q ≠ r → w.heap.size ≤ p → w.heap.size ≤ q → w.heap.size ≤ r → p < w.heap.size + 3 → q < w.heap.size + 3 → r < w.heap.size + 3 → S (((w.alloc ob).alloc ob).alloc ob) →
      wpAnyH P md ops Q S fuel (((listed.setIfInBounds i true).setIfInBounds j true).setIfInBounds k true) (((a.put (some x) (.pointer (some ⟨p, 0, none⟩))).put (some y) (.pointer (some ⟨q, 0, none⟩))).put (some z) (.pointer (some ⟨r, 0, none⟩))) (((w.alloc ob).alloc ob).alloc ob)) :
    wpAnyH P md ops Q S (fuel + 3) listed a w := by
  have s1 : S (w.alloc ob) := hS _ _ h0 (Fr.alloc (Fr.refl _ _) _)
  have s2 : S ((w.alloc ob).alloc ob) := hS _ _ s1 (Fr.alloc (Fr.refl _ _) _)
  have s3 : S (((w.alloc ob).alloc ob).alloc ob) := hS _ _ s2 (Fr.alloc (Fr.refl _ _) _)
  have z1 : (w.alloc ob).heap.size = w.heap.size + 1 := by simp
  have z2 : ((w.alloc ob).alloc ob).heap.size = w.heap.size + 2 := by simp
  have Di : ∀ (a : Act) (w : World), Does P Q oi a w (fun v w' => v = .pointer (some ⟨w.heap.size, 0, none⟩) ∧ w' = w.alloc ob) := fun a w => Does.val (ri a w) ⟨rfl, rfl⟩
  have Dj : ∀ (a : Act) (w : World), Does P Q oj a w (fun v w' => v = .pointer (some ⟨w.heap.size, 0, none⟩) ∧ w' = w.alloc ob) := fun a w => Does.val (rj a w) ⟨rfl, rfl⟩
  have Dk : ∀ (a : Act) (w : World), Does P Q ok a w (fun v w' => v = .pointer (some ⟨w.heap.size, 0, none⟩) ∧ w' = w.alloc ob) := fun a w => Does.val (rk a w) ⟨rfl, rfl⟩
  have c1 := set_comm listed hij
  have c2 := set_comm listed hik
  have c3 := set_comm listed hjk
  refine stepH (fuel := fuel + 2) r0 (by simp) (fun n hn => ?_)
  rcases List.mem_cons.1 hn with rfl | hn
  · refine ⟨oi, hi, wanted_plain gi _, _, Di _ _, ?_⟩
    rintro v w' ⟨rfl, rfl⟩
    refine ⟨s1, stepH (fuel := fuel + 1) r1 (by simp) (fun m hm => ?_)⟩
    rw [di]
    rcases List.mem_cons.1 hm with rfl | hm
    · refine ⟨oj, hj, wanted_plain gj _, _, Dj _ _, ?_⟩
      rintro v w' ⟨rfl, rfl⟩
      refine ⟨s2, stepH (fuel := fuel) r12 (by simp) (fun l hl => ?_)⟩
      obtain rfl := List.mem_singleton.1 hl
      refine ⟨ok, hk, wanted_plain gk _, _, Dk _ _, ?_⟩
      rintro v w' ⟨rfl, rfl⟩
      rw [dj, dk]
      exact ⟨s3, key _ _ _ (by omega) (by omega) (by omega) (by omega) (by omega) (by omega) (by omega) (by omega) (by omega) s3⟩
    · obtain rfl := List.mem_singleton.1 hm
      refine ⟨ok, hk, wanted_plain gk _, _, Dk _ _, ?_⟩
      rintro v w' ⟨rfl, rfl⟩
      refine ⟨s2, stepH (fuel := fuel) r13 (by simp) (fun l hl => ?_)⟩
      obtain rfl := List.mem_singleton.1 hl
      refine ⟨oj, hj, wanted_plain gj _, _, Dj _ _, ?_⟩
      rintro v w' ⟨rfl, rfl⟩
      rw [dj, dk, put_comm _ (Ne.symm hyz), set_comm _ (Ne.symm hjk)]
      exact ⟨s3, key _ _ _ (by omega) (by omega) (by omega) (by omega) (by omega) (by omega) (by omega) (by omega) (by omega) s3⟩
  · rcases List.mem_cons.1 hn with rfl | hn
    · refine ⟨oj, hj, wanted_plain gj _, _, Dj _ _, ?_⟩
      rintro v w' ⟨rfl, rfl⟩
      refine ⟨s1, stepH (fuel := fuel + 1) r2 (by simp) (fun m hm => ?_)⟩
      rw [dj]
      rcases List.mem_cons.1 hm with rfl | hm
      · refine ⟨oi, hi, wanted_plain gi _, _, Di _ _, ?_⟩
        rintro v w' ⟨rfl, rfl⟩
        refine ⟨s2, stepH (fuel := fuel) (rs := [k]) (by rw [← c1]; exact r12) (by simp) (fun l hl => ?_)⟩
        obtain rfl := List.mem_singleton.1 hl
        refine ⟨ok, hk, wanted_plain gk _, _, Dk _ _, ?_⟩
        rintro v w' ⟨rfl, rfl⟩
        rw [di, dk, put_comm _ (Ne.symm hxy), ← c1]
        exact ⟨s3, key _ _ _ (by omega) (by omega) (by omega) (by omega) (by omega) (by omega) (by omega) (by omega) (by omega) s3⟩
      · obtain rfl := List.mem_singleton.1 hm
        refine ⟨ok, hk, wanted_plain gk _, _, Dk _ _, ?_⟩
        rintro v w' ⟨rfl, rfl⟩
        refine ⟨s2, stepH (fuel := fuel) r23 (by simp) (fun l hl => ?_)⟩
        obtain rfl := List.mem_singleton.1 hl
        refine ⟨oi, hi, wanted_plain gi _, _, Di _ _, ?_⟩
        rintro v w' ⟨rfl, rfl⟩
        rw [di, dk, put_comm _ (Ne.symm hxz), put_comm _ (Ne.symm hxy), set_comm _ (Ne.symm hik), ← c1]
        exact ⟨s3, key _ _ _ (by omega) (by omega) (by omega) (by omega) (by omega) (by omega) (by omega) (by omega) (by omega) s3⟩
    · obtain rfl := List.mem_singleton.1 hn
      refine ⟨ok, hk, wanted_plain gk _, _, Dk _ _, ?_⟩
      rintro v w' ⟨rfl, rfl⟩
      refine ⟨s1, stepH (fuel := fuel + 1) r3 (by simp) (fun m hm => ?_)⟩
      rw [dk]
      rcases List.mem_cons.1 hm with rfl | hm
      · refine ⟨oi, hi, wanted_plain gi _, _, Di _ _, ?_⟩
        rintro v w' ⟨rfl, rfl⟩
        refine ⟨s2, stepH (fuel := fuel) (rs := [j]) (by rw [← c2]; exact r13) (by simp) (fun l hl => ?_)⟩
        obtain rfl := List.mem_singleton.1 hl
        refine ⟨oj, hj, wanted_plain gj _, _, Dj _ _, ?_⟩
        rintro v w' ⟨rfl, rfl⟩
        rw [di, dj, put_comm _ (Ne.symm hxz), put_comm _ (Ne.symm hyz), ← c2, set_comm _ (Ne.symm hjk)]
        exact ⟨s3, key _ _ _ (by omega) (by omega) (by omega) (by omega) (by omega) (by omega) (by omega) (by omega) (by omega) s3⟩
      · obtain rfl := List.mem_singleton.1 hm
        refine ⟨oj, hj, wanted_plain gj _, _, Dj _ _, ?_⟩
        rintro v w' ⟨rfl, rfl⟩
        refine ⟨s2, stepH (fuel := fuel) (rs := [i]) (by rw [← c3]; exact r23) (by simp) (fun l hl => ?_)⟩
        obtain rfl := List.mem_singleton.1 hl
        refine ⟨oi, hi, wanted_plain gi _, _, Di _ _, ?_⟩
        rintro v w' ⟨rfl, rfl⟩
        rw [di, dj, put_comm _ (Ne.symm hyz), put_comm _ (Ne.symm hxz), put_comm _ (Ne.symm hxy), ← c3, set_comm _ (Ne.symm hik), ← c1]
        exact ⟨s3, key _ _ _ (by omega) (by omega) (by omega) (by omega) (by omega) (by omega) (by omega) (by omega) (by omega) s3⟩

/-- Operation c behind operation i, and j beside them: I and J are what i and j make; c hands on what i has made. -/
theorem diamond {i c j x z y : Nat} {oi oc oj : Oper} {I J : Value → World → Prop} (hij : i ≠ j) (hcj : c ≠ j) (hxy : x ≠ y) (hzy : z ≠ y)
    (hi : ops[i]? = some oi) (hc : ops[c]? = some oc) (hj : ops[j]? = some oj) (di : oi.dst = some x) (dc : oc.dst = some z) (dj : oj.dst = some y)
    (wi : Region.wanted oi (yielded ops a.tmps) = true) (wi2 : ∀ u, Region.wanted oi (yielded ops (a.put (some y) u).tmps) = true)
    (wj : Region.wanted oj (yielded ops a.tmps) = true) (wj2 : ∀ u, Region.wanted oj (yielded ops (a.put (some x) u).tmps) = true) (wj3 : ∀ u u', Region.wanted oj (yielded ops ((a.put (some x) u).put (some z) u').tmps) = true)
    (wc : ∀ u, Region.wanted oc (yielded ops (a.put (some x) u).tmps) = true) (wc2 : ∀ u u', Region.wanted oc (yielded ops ((a.put (some x) u).put (some y) u').tmps) = true)
    (Di : ∀ w, Does P Q oi a w (fun v w' => New w w' ∧ I v w')) (Di2 : ∀ u w, Does P Q oi (a.put (some y) u) w (fun v w' => New w w' ∧ I v w'))
    (Dj : ∀ w, Does P Q oj a w (fun v w' => New w w' ∧ J v w')) (Dj2 : ∀ u w, Does P Q oj (a.put (some x) u) w (fun v w' => New w w' ∧ J v w')) (Dj3 : ∀ u u' w, Does P Q oj ((a.put (some x) u).put (some z) u') w (fun v w' => New w w' ∧ J v w'))
    (Dc : ∀ u w, Does P Q oc (a.put (some x) u) w (fun v w' => v = u ∧ New w w')) (Dc2 : ∀ u u' w, Does P Q oc ((a.put (some x) u).put (some y) u') w (fun v w' => v = u ∧ New w w'))
    (r0 : Region.ready md ops listed = [i, j]) (r1 : Region.ready md ops (listed.setIfInBounds i true) = [c, j]) (r2 : Region.ready md ops (listed.setIfInBounds j true) = [i])
    (r1c : Region.ready md ops ((listed.setIfInBounds i true).setIfInBounds c true) = [j]) (r1j : Region.ready md ops ((listed.setIfInBounds i true).setIfInBounds j true) = [c])
    (hI : ∀ v w w', I v w → New w w' → I v w') (hJ : ∀ v w w', J v w → New w w' → J v w')
    (hS : ∀ w w' : World, S w → New w w' → S w') (h0 : S w)
    (key : ∀ u u' w', S w' → New w w' → I u w' → J u' w' →
      wpAnyH P md ops Q S fuel (((listed.setIfInBounds i true).setIfInBounds c true).setIfInBounds j true) (((a.put (some x) u).put (some z) u).put (some y) u') w') :
    wpAnyH P md ops Q S (fuel + 3) listed a w := by
  have ntr : ∀ {a b c : World}, New a b → New b c → New a c := fun h k => Fr.trans h k (fun _ _ h => h)
  have c1 := set_comm listed hij
  refine stepH (fuel := fuel + 2) r0 (by simp) (fun n hn => ?_)
  rcases List.mem_cons.1 hn with rfl | hn
  · refine ⟨oi, hi, wi, _, Di _, ?_⟩
    rintro u w1 ⟨n1, i1⟩
    rw [di]
    refine ⟨hS _ _ h0 n1, stepH (fuel := fuel + 1) r1 (by simp) (fun m hm => ?_)⟩
    rcases List.mem_cons.1 hm with rfl | hm
    · refine ⟨oc, hc, wc _, _, Dc _ _, ?_⟩
      rintro v w2 ⟨rfl, n2⟩
      rw [dc]
      refine ⟨hS _ _ h0 (ntr n1 n2), stepH (fuel := fuel) r1c (by simp) (fun l hl => ?_)⟩
      obtain rfl := List.mem_singleton.1 hl
      refine ⟨oj, hj, wj3 _ _, _, Dj3 _ _ _, ?_⟩
      rintro u' w3 ⟨n3, j3⟩
      rw [dj]
      have s3 := hS _ _ h0 (ntr (ntr n1 n2) n3)
      exact ⟨s3, key _ _ _ s3 (ntr (ntr n1 n2) n3) (hI _ _ _ i1 (ntr n2 n3)) j3⟩
    · obtain rfl := List.mem_singleton.1 hm
      refine ⟨oj, hj, wj2 _, _, Dj2 _ _, ?_⟩
      rintro u' w2 ⟨n2, j2⟩
      rw [dj]
      refine ⟨hS _ _ h0 (ntr n1 n2), stepH (fuel := fuel) r1j (by simp) (fun l hl => ?_)⟩
      obtain rfl := List.mem_singleton.1 hl
      refine ⟨oc, hc, wc2 _ _, _, Dc2 _ _ _, ?_⟩
      rintro v w3 ⟨rfl, n3⟩
      rw [dc, put_comm _ (Ne.symm hzy), set_comm _ (Ne.symm hcj)]
      have s3 := hS _ _ h0 (ntr (ntr n1 n2) n3)
      exact ⟨s3, key _ _ _ s3 (ntr (ntr n1 n2) n3) (hI _ _ _ i1 (ntr n2 n3)) (hJ _ _ _ j2 n3)⟩
  · obtain rfl := List.mem_singleton.1 hn
    refine ⟨oj, hj, wj, _, Dj _, ?_⟩
    rintro u' w1 ⟨n1, j1⟩
    rw [dj]
    refine ⟨hS _ _ h0 n1, stepH (fuel := fuel + 1) r2 (by simp) (fun m hm => ?_)⟩
    obtain rfl := List.mem_singleton.1 hm
    refine ⟨oi, hi, wi2 _, _, Di2 _ _, ?_⟩
    rintro u w2 ⟨n2, i2⟩
    rw [di, put_comm _ (Ne.symm hxy), ← c1]
    refine ⟨hS _ _ h0 (ntr n1 n2), stepH (fuel := fuel) r1j (by simp) (fun l hl => ?_)⟩
    obtain rfl := List.mem_singleton.1 hl
    refine ⟨oc, hc, wc2 _ _, _, Dc2 _ _ _, ?_⟩
    rintro v w3 ⟨rfl, n3⟩
    rw [dc, put_comm _ (Ne.symm hzy), set_comm _ (Ne.symm hcj)]
    have s3 := hS _ _ h0 (ntr (ntr n1 n2) n3)
    exact ⟨s3, key _ _ _ s3 (ntr (ntr n1 n2) n3) (hI _ _ _ i2 n3) (hJ _ _ _ j1 (ntr n2 n3))⟩
end


/-- What is known of the slots: the first entry of a number counts. -/
def lk : List (Nat × Value) → Nat → Option Value
  | [], _ => none
  | (j, v) :: F, k => cond (Nat.beq j k) (some v) (lk F k)
def evO (F : List (Nat × Value)) : Operand → Option Value
  | .tmp k => lk F k
  | .const v => some v
  | _ => none
def evL (F : List (Nat × Value)) : List Operand → Option (List Value)
  | [] => some []
  | x :: l => match evO F x, evL F l with
    | some v, some vl => some (v :: vl)
    | _, _ => none
def allIn (F : List (Nat × Value)) : List (Nat × Value) → Prop
  | [] => True
  | p :: G => lk F p.1 = some p.2 ∧ allIn F G
structure EnvD (DF : List Deferred) (N : Nat) (F : List (Nat × Value)) (a : Act) : Prop where
  sz : a.tmps.size = N
  df : a.defers = DF
  ev : ∀ k v, lk F k = some v → a.eval (.tmp k) = v
/-- The same, and no deferred calls. -/
abbrev Env (N : Nat) (F : List (Nat × Value)) (a : Act) : Prop := EnvD [] N F a

section
variable {DF : List Deferred} {N : Nat} {F : List (Nat × Value)} {a : Act}
theorem EnvD.op (he : EnvD DF N F a) {x : Operand} {v : Value} (h : evO F x = some v) : a.eval x = v := by
  cases x with
  | tmp k => exact he.ev k v h
  | const u => simp only [evO, Option.some.injEq] at h; exact h
  | _ => simp [evO] at h
theorem EnvD.args (he : EnvD DF N F a) {l : List Operand} {vl : List Value} (h : evL F l = some vl) : l.toArray.map a.eval = vl.toArray := by
  induction l generalizing vl with
  | nil => simp only [evL, Option.some.injEq] at h; subst h; simp
  | cons x l ih =>
    simp only [evL] at h
    split at h
    · rename_i v vs h1 h2
      simp only [Option.some.injEq] at h
      subst h
      have e := ih h2
      simp only [List.map_toArray, List.map_cons, he.op h1] at e ⊢
      rw [Array.mk.injEq] at e
      rw [e]
    · cases h
theorem EnvD.put (he : EnvD DF N F a) {k : Nat} (hk : Nat.blt k N = true) (v : Value) : EnvD DF N ((k, v) :: F) (a.put (some k) v) := by
  have hk : k < N := by simpa [Nat.blt_eq] using hk
  refine ⟨by rw [sz_put]; exact he.sz, he.df, fun j u h => ?_⟩
  unfold lk at h
  cases hb : Nat.beq k j with
  | true =>
    rw [hb] at h
    simp only [cond_true, Option.some.injEq] at h
    obtain rfl := Nat.eq_of_beq_eq_true hb
    rw [ev_same (by rw [he.sz]; exact hk), h]
  | false =>
    rw [hb] at h
    simp only [cond_false] at h
    have hne : j ≠ k := fun e => by subst e; rw [Nat.beq_refl] at hb; cases hb
    rw [ev_ne hne]
    exact he.ev j u h
theorem EnvD.put0 (he : EnvD DF N F a) (v : Value) : EnvD DF N F (a.put none v) := ⟨he.sz, he.df, he.ev⟩
theorem EnvD.mem (he : EnvD DF N F a) {G : List (Nat × Value)} (h : allIn F G) : EnvD DF N G a := by
  refine ⟨he.sz, he.df, ?_⟩
  induction G with
  | nil => intro k v h; simp [lk] at h
  | cons p G ih =>
    intro k v hk
    obtain ⟨j, u⟩ := p
    obtain ⟨h1, h2⟩ := h
    unfold lk at hk
    cases hb : Nat.beq j k with
    | true =>
      rw [hb] at hk
      simp only [cond_true, Option.some.injEq] at hk
      obtain rfl := Nat.eq_of_beq_eq_true hb
      subst hk
      exact he.ev _ _ h1
    | false =>
      rw [hb] at hk
      exact ih h2 k v hk
theorem EnvD.same (he : EnvD DF N F a) {G : List (Nat × Value)} (h : F = G) : EnvD DF N G a := h ▸ he
theorem EnvD.want (he : EnvD DF N F a) {ops : Array Oper} {o oj : Oper} {j k : Nat} {b : Bool} (h : o.guard = some (j, b)) (hj : ops[j]? = some oj) (hd : oj.dst = some k) (hk : Nat.blt k N = true) (hv : lk F k = some (.bool b)) : Region.wanted o (yielded ops a.tmps) = true :=
  wanted_guard h hj hd (by rw [he.sz]; simpa [Nat.blt_eq] using hk) (he.ev _ _ hv)
theorem EnvD.wantNot (he : EnvD DF N F a) {ops : Array Oper} {o oj : Oper} {j k : Nat} {b c : Bool} (h : o.guard = some (j, b)) (hj : ops[j]? = some oj) (hd : oj.dst = some k) (hk : Nat.blt k N = true) (hv : lk F k = some (.bool c)) (hbc : (c == b) = false) : Region.wanted o (yielded ops a.tmps) = false :=
  unwanted_guard h hj hd (by rw [he.sz]; simpa [Nat.blt_eq] using hk) (he.ev _ _ hv) (by simpa using hbc)
end

theorem EnvD.wantU {DF : List Deferred} {N : Nat} {F : List (Nat × Value)} {a : Act} (he : EnvD DF N F a) {ops : Array Oper} {o oj : Oper} {j k : Nat} {b : Bool} (h : o.guard = some (j, b)) (hj : ops[j]? = some oj) (hd : oj.dst = some k) (hk : Nat.blt k N = true) (hv : lk F k = some undef) : Region.wanted o (yielded ops a.tmps) = false := by
  have hk' : k < a.tmps.size := by rw [he.sz]; simpa [Nat.blt_eq] using hk
  have h1 : a.tmps[k]? = some undef := by
    have hv' := he.ev _ _ hv
    rw [Array.getElem?_eq_getElem hk']
    simp only [Act.eval, Array.getD, hk', dif_pos] at hv'
    exact congrArg some hv'
  simp [Region.wanted, h, yielded, hj, hd, h1, undef]

/-- A block of the call's own: its number, its type, its cells. -/
structure Bk where
  p : Nat
  t : TypeId
  cs : Array Value
/-- Blocks that came since w0, all of them different ones, as they are now; of w0's blocks none has turned. -/
structure Hp (w0 : World) (H : List Bk) (w : World) : Prop where
  new : New w0 w
  nd : ∀ (i j : Nat) (b c : Bk), H[i]? = some b → H[j]? = some c → i ≠ j → b.p ≠ c.p
  bl : ∀ b ∈ H, w0.heap.size ≤ b.p ∧ Blk w b.p b.t b.cs

section
variable {w0 w w' : World} {H : List Bk}
theorem Hp.start (w : World) : Hp w [] w := ⟨Fr.refl _ _, by simp, by simp⟩
theorem Hp.at (h : Hp w0 H w) {i : Nat} {b : Bk} (hb : H[i]? = some b) : Blk w b.p b.t b.cs := (h.bl b (List.mem_of_getElem? hb)).2
theorem Hp.lo (h : Hp w0 H w) {i : Nat} {b : Bk} (hb : H[i]? = some b) : w0.heap.size ≤ b.p := (h.bl b (List.mem_of_getElem? hb)).1
theorem Hp.call (h : Hp w0 H w) (hn : New w w') : Hp w0 H w' :=
  ⟨Fr.trans h.new hn (fun _ _ h => h), h.nd, fun b hb => ⟨(h.bl b hb).1, (h.bl b hb).2.fr hn (fun h => h)⟩⟩
theorem Hp.cons (h : Hp w0 H w) {p : Nat} {t : TypeId} {cs : Array Value} (hn : New w w') (hp : w.heap.size ≤ p) (hb : Blk w' p t cs) : Hp w0 (⟨p, t, cs⟩ :: H) w' := by
  have fresh : ∀ c ∈ H, c.p ≠ p := fun c hc e => by
    have := (h.bl c hc).2.lt
    omega
  refine ⟨Fr.trans h.new hn (fun _ _ h => h), ?_, ?_⟩
  · intro i j b c hi hj hij
    cases i with
    | zero =>
      cases j with
      | zero => exact absurd rfl hij
      | succ j =>
        simp only [List.getElem?_cons_zero, Option.some.injEq] at hi
        subst hi
        exact (fresh c (List.mem_of_getElem? (by simpa using hj))).symm
    | succ i =>
      cases j with
      | zero =>
        simp only [List.getElem?_cons_zero, Option.some.injEq] at hj
        subst hj
        exact fresh b (List.mem_of_getElem? (by simpa using hi))
      | succ j => exact h.nd i j b c (by simpa using hi) (by simpa using hj) (fun e => hij (by rw [e]))
  · intro b hb'
    rcases List.mem_cons.1 hb' with rfl | hb'
    · exact ⟨Nat.le_trans h.new.size hp, hb⟩
    · exact ⟨(h.bl b hb').1, (h.bl b hb').2.fr hn (fun h => h)⟩
theorem Hp.alloc (h : Hp w0 H w) (t : TypeId) (cs : Array Value) : Hp w0 (⟨w.heap.size, t, cs⟩ :: H) (w.alloc (.cells cs t)) :=
  h.cons ((Fr.refl _ _).alloc _) (Nat.le_refl _) (Blk.new w t cs)
theorem Hp.drew (h : Hp w0 H w) : Hp w0 H w.drew := ⟨h.new.drew, h.nd, fun b hb => ⟨(h.bl b hb).1, (h.bl b hb).2⟩⟩
theorem Hp.set (h : Hp w0 H w) {i : Nat} {b : Bk} {cs : Array Value} (hb : H[i]? = some b) (hB : Blk w' b.p b.t cs) (hf : Fr (fun k => k = b.p) w w') : Hp w0 (H.set i ⟨b.p, b.t, cs⟩) w' := by
  have hlo := h.lo hb
  have key : ∀ (j : Nat) (c : Bk), (H.set i ⟨b.p, b.t, cs⟩)[j]? = some c → (i = j ∧ c = ⟨b.p, b.t, cs⟩) ∨ (i ≠ j ∧ H[j]? = some c) := by
    intro j c hj
    rw [List.getElem?_set] at hj
    by_cases e : i = j
    · left
      rw [if_pos e] at hj
      split at hj
      · simp only [Option.some.injEq] at hj
        exact ⟨e, hj.symm⟩
      · cases hj
    · right
      rw [if_neg e] at hj
      exact ⟨e, hj⟩
  refine ⟨⟨hf.os.trans h.new.os, hf.tape.trans h.new.tape, hf.output.trans h.new.output, Nat.le_trans h.new.size hf.size, fun k hk _ => (hf.block k (Nat.lt_of_lt_of_le hk h.new.size) (by omega)).trans (h.new.block k hk (fun h => h))⟩, ?_, fun c hc => ?_⟩
  · intro j k c d hj hk hjk
    rcases key j c hj with ⟨e1, rfl⟩ | ⟨e1, h1⟩ <;> rcases key k d hk with ⟨e2, rfl⟩ | ⟨e2, h2⟩
    · exact absurd (e1.symm.trans e2) hjk
    · exact h.nd i k b d hb h2 e2
    · exact h.nd j i c b h1 hb (Ne.symm e1)
    · exact h.nd j k c d h1 h2 hjk
  · obtain ⟨j, hj, e⟩ := List.mem_iff_getElem.1 hc
    rcases key j c (by rw [List.getElem?_eq_getElem hj, e]) with ⟨_, rfl⟩ | ⟨e1, h1⟩
    · exact ⟨hlo, hB⟩
    · exact ⟨h.lo h1, (h.at h1).fr hf (fun ep => h.nd j i c b h1 hb (Ne.symm e1) ep)⟩
theorem Hp.same (h : Hp w0 H w) {H' : List Bk} (e : H = H') : Hp w0 H' w := e ▸ h
/-- Fewer blocks: those at the given places. -/
theorem Hp.tail (h : Hp w0 H w) {b : Bk} {G : List Bk} (e : H = b :: G) : Hp w0 G w := by
  subst e
  exact ⟨h.new, fun i j c d hi hj hij => h.nd (i + 1) (j + 1) c d (by simpa using hi) (by simpa using hj) (by omega), fun c hc => h.bl c (List.mem_cons_of_mem _ hc)⟩
end

/-! ### Steps of the text -/
section
variable {P : Program} {Q : Exit → Act → World → Prop} {a : Act} {w : World}
/-- A piece of code from which only this is kept. -/
theorem reg_cut {c : Code} {K : Act → World → Prop} (I : Act → World → Prop) (h1 : c.wp P (Exit.then I (fun _ _ _ => False)) a w) (h2 : ∀ a w, I a w → K a w) : c.wp P (Exit.then K Q) a w :=
  wp_mono h1 (fun e a w h => by
    cases e with
    | normal => exact h2 a w h
    | _ => exact h.elim)
theorem then_ok {K : Act → World → Prop} (h : K a w) : Exit.then K Q .normal a w := h
theorem block_ok {id : Nat} (h : Q .normal a w) : Exit.inBlock id Q .normal a w := h
theorem ret_env {fn : Func} {t : Tmp} {N : Nat} {F : List (Nat × Value)} {v : Value} {R : Ending → World → Prop} (hf : fn.results = #[.tmp t]) (he : Env N F a) (hv : lk F t = some v) (hR : R (.returned v) w) : bodyPost P fn R .ret a w :=
  bodyPost_ret ((results_tmp hf a.tmps P w).trans (by rw [show a.tmps.getD t undef = v from he.ev _ _ hv])) he.df hR
theorem calls_env {f : FuncId} {fn : Func} {c : Code} {vl : List Value} {R : Ending → World → Prop} (N : Nat) (F : List (Nat × Value)) (hf : P.funcs[f]? = some fn) (hb : fn.body = some c)
    (hN : fn.ntmps = N) (hF : ∀ a : Act, a.tmps = vl.toArray ++ Array.replicate (N - vl.length) undef → ∀ k v, lk F k = some v → a.eval (.tmp k) = v) (hl : vl.length ≤ N)
    (h : ∀ a, Env N F a → c.wp P (bodyPost P fn R) a w) : Calls P f vl.toArray w R := by
  refine calls_of_wp hf hb (h _ ⟨?_, rfl, hF _ ?_⟩)
  · simp only [hN, Array.size_append, Array.size_replicate, List.size_toArray]
    omega
  · simp only [hN, List.size_toArray]
end

def enumF : Nat → List Value → List (Nat × Value)
  | _, [] => []
  | i, v :: l => (i, v) :: enumF (i + 1) l
theorem lk_enumF (l : List Value) : ∀ (i k : Nat) (v : Value), lk (enumF i l) k = some v → i ≤ k ∧ l[k - i]? = some v := by
  induction l with
  | nil => intro i k v h; simp [enumF, lk] at h
  | cons u l ih =>
    intro i k v h
    unfold enumF lk at h
    cases hb : Nat.beq i k with
    | true =>
      rw [hb] at h
      simp only [cond_true, Option.some.injEq] at h
      obtain rfl := Nat.eq_of_beq_eq_true hb
      subst h
      exact ⟨Nat.le_refl _, by simp⟩
    | false =>
      rw [hb] at h
      obtain ⟨h1, h2⟩ := ih (i + 1) k v h
      refine ⟨by omega, ?_⟩
      obtain ⟨j, hj⟩ : ∃ j, k - i = j + 1 := ⟨k - (i + 1), by omega⟩
      rw [hj, List.getElem?_cons_succ, ← h2]
      congr 1
      omega
/-- A call begins: the frame holds the arguments. -/
theorem calls_args {P : Program} {w : World} {f : FuncId} {fn : Func} {c : Code} {vl : List Value} {R : Ending → World → Prop} (N : Nat) (hf : P.funcs[f]? = some fn) (hb : fn.body = some c)
    (hN : fn.ntmps = N) (hl : Nat.ble vl.length N = true) (h : ∀ a, Env N (enumF 0 vl) a → c.wp P (bodyPost P fn R) a w) : Calls P f vl.toArray w R := by
  have hl := Nat.le_of_ble_eq_true hl
  refine calls_env N (enumF 0 vl) hf hb hN (fun a ha k v hk => ?_) hl h
  obtain ⟨-, h2⟩ := lk_enumF vl 0 k v hk
  rw [Nat.sub_zero] at h2
  have hlt : k < vl.length := (List.getElem?_eq_some_iff.1 h2).1
  simp only [Act.eval, Array.getD_eq_getD_getElem?, ha]
  rw [Array.getElem?_append_left (by simpa using hlt)]
  simp [h2]

section
variable {P : Program} {ops : Array Oper} {Q : Exit → Act → World → Prop} {a : Act} {w : World} {rest : List Oper} {o : Oper} {DF : List Deferred} {N k : Nat} {F : List (Nat × Value)}
/-- An operation that yields a value. -/
theorem lV (v : Value) {w' : World} (he : EnvD DF N F a) (hd : o.dst = some k) (hk : Nat.blt k N = true) (hw : Region.wanted o (yielded ops a.tmps) = true) (h : (execOp a.eval o).run P w = .ok (.value v) w')
    (next : ∀ a', EnvD DF N ((k, v) :: F) a' → wpList P ops Q rest a' w') : wpList P ops Q (o :: rest) a w :=
  wpList_step fun K hK => by rw [if_pos hw]; exact wp_valw h (hK _ _ (by rw [hd]; exact next _ (he.put hk v)))
/-- The same, its three plain conditions as one. -/
theorem lW (v : Value) {w' : World} (he : EnvD DF N F a) (h3 : (o.dst, o.guard, Nat.blt k N) = (some k, none, true)) (h : (execOp a.eval o).run P w = .ok (.value v) w')
    (next : ∀ a', EnvD DF N ((k, v) :: F) a' → wpList P ops Q rest a' w') : wpList P ops Q (o :: rest) a w :=
  lV v he (congrArg (·.1) h3) (congrArg (·.2.2) h3) (wanted_plain (congrArg (·.2.1) h3) _) h next
/-- An operation that is not asked for. -/
theorem lSkip (he : EnvD DF N F a) (hd : o.dst = some k) (hk : Nat.blt k N = true) (hw : Region.wanted o (yielded ops a.tmps) = false)
    (next : ∀ a', EnvD DF N ((k, undef) :: F) a' → wpList P ops Q rest a' w) : wpList P ops Q (o :: rest) a w :=
  wpList_step fun K hK => by rw [if_neg (by simp [hw])]; exact hK _ _ (by rw [hd]; exact next _ (he.put hk undef))
/-- A call that returns this. -/
theorem lC {f : FuncId} {fn : Func} {c : Code} {l : List Operand} {ats : Array TypeId} {vl : List Value} {v : Value} {R : World → Prop} (he : EnvD DF N F a) (hd : o.dst = some k) (hk : Nat.blt k N = true)
    (hf : P.funcs[f]? = some fn) (hname : (fn.name == "runtime.NumGoroutine") = false) (hb : fn.body = some c) (ho : o.op = .call { callee := .value (.func f), args := l.toArray, argTypes := ats })
    (hw : Region.wanted o (yielded ops a.tmps) = true) (hv : evL F l = some vl) (hc : Calls P f vl.toArray w fun e w' => e = .returned v ∧ R w')
    (next : ∀ w' a', R w' → EnvD DF N ((k, v) :: F) a' → wpList P ops Q rest a' w') : wpList P ops Q (o :: rest) a w :=
  wpList_step fun K hK => by
    rw [if_pos hw]
    exact wp_callF hf hname hb ho (he.args hv) (hc.mono fun e w' ⟨h1, h2⟩ => ⟨v, h1, hK _ _ (by rw [hd]; exact next _ _ h2 (he.put hk v))⟩)
/-- A call of which something is known. -/
theorem lCx {f : FuncId} {fn : Func} {c : Code} {l : List Operand} {ats : Array TypeId} {vl : List Value} {R : Ending → World → Prop} (he : EnvD DF N F a) (hd : o.dst = some k) (hk : Nat.blt k N = true)
    (hf : P.funcs[f]? = some fn) (hname : (fn.name == "runtime.NumGoroutine") = false) (hb : fn.body = some c) (ho : o.op = .call { callee := .value (.func f), args := l.toArray, argTypes := ats })
    (hw : Region.wanted o (yielded ops a.tmps) = true) (hv : evL F l = some vl) (hc : Calls P f vl.toArray w R)
    (next : ∀ e w', R e w' → ∃ v, e = .returned v ∧ ∀ a', EnvD DF N ((k, v) :: F) a' → wpList P ops Q rest a' w') : wpList P ops Q (o :: rest) a w :=
  wpList_step fun K hK => by
    rw [if_pos hw]
    exact wp_callF hf hname hb ho (he.args hv) (hc.mono fun e w' h => let ⟨v, h1, h2⟩ := next e w' h; ⟨v, h1, hK _ _ (by rw [hd]; exact h2 _ (he.put hk v))⟩)
/-- An operation that makes a block. -/
theorem lNew (mk : Nat → Value) {t : TypeId} {cs : Array Value} {w0 : World} {H : List Bk} (he : EnvD DF N F a) (hH : Hp w0 H w) (hd : o.dst = some k) (hk : Nat.blt k N = true)
    (hw : Region.wanted o (yielded ops a.tmps) = true) (h : (execOp a.eval o).run P w = .ok (.value (mk w.heap.size)) (w.alloc (.cells cs t)))
    (next : ∀ p w' a', New w w' → Hp w0 (⟨p, t, cs⟩ :: H) w' → EnvD DF N ((k, mk p) :: F) a' → wpList P ops Q rest a' w') : wpList P ops Q (o :: rest) a w :=
  wpList_step fun K hK => by rw [if_pos hw]; exact wp_valw h (hK _ _ (by rw [hd]; exact next _ _ _ ((Fr.refl _ _).alloc _) (hH.alloc t cs) (he.put hk _)))
end

/-- What is stored into a part of a block, whatever follows. -/
theorem store_does {w : World} {o : Oper} {a : Act} {Q : Exit → Act → World → Prop} {K : Act → World → Prop} {ty : TypeId} {x y : Operand} (ho : o.op = .store ty x y)
    {g i : Nat} {t : TypeId} {cur news : Array Value} (hx : a.eval x = .pointer (some ⟨g, i, none⟩)) (hy : a.eval y = .agg news) (hg : Blk w g t cur)
    (hi : (Tryd.prog.info? ty).map (·.size) = some news.size) (hfit : i + news.size ≤ cur.size) (h1 : ∀ u ∈ news.toList, u.oneCell' = true)
    (h : ∀ w', Blk w' g t (lay cur i news) → Fr (fun k => k = g) w w' → w'.heap.size = w.heap.size → K (a.put o.dst undef) w') : Oper.wp Tryd.prog o a w K Q := by
  have hs := run_storeCells_at Tryd.prog g i t news.toList 0 cur w hg (by simpa using hfit) h1
  have hrun : (storeVar ty ⟨g, i, none⟩ (.agg news)).run Tryd.prog w = .ok () (w.setRow g (lay cur i news)) := by
    cases hq : Tryd.prog.info? ty with
    | none => simp [hq] at hi
    | some inf =>
      have hsz : news.size = inf.size := by simp [hq] at hi; omega
      simp only [Nat.add_zero, Array.length_toList] at hs
      simp [storeVar, sizeOf, typeInfo, hq, Value.cells, hsz, hs, lay]
  unfold Oper.wp execOp
  simp only [ho, hx, hy, Instr.storeAt, Instr.sureAddr, Sem.run_bind, Sem.run_pure, Result.andThen_ok, hrun]
  exact h _ (setRow_heap w g cur _ t _ hg) (fr_setRow w g _) (by simp)
def oneAll (cs : Array Value) : Bool := cs.toList.all (·.oneCell')
theorem oneAll_mem {cs : Array Value} (h : oneAll cs = true) : ∀ u ∈ cs.toList, u.oneCell' = true := fun u hu => by
  unfold oneAll at h
  rw [List.all_eq_true] at h
  exact h u hu

section
variable {ops : Array Oper} {Q : Exit → Act → World → Prop} {a : Act} {w w0 : World} {rest : List Oper} {o : Oper} {DF : List Deferred} {N k : Nat} {F : List (Nat × Value)} {H : List Bk}
/-- A store into block number i of the call's own. -/
theorem lSet (i : Nat) {off : Nat} {b : Bk} {cs news : Array Value} {ty : TypeId} {x y : Operand} (he : EnvD DF N F a) (hH : Hp w0 H w) (hd : o.dst = none) (hw : Region.wanted o (yielded ops a.tmps) = true)
    (ho : o.op = .store ty x y) (hb : H[i]? = some b) (hx : evO F x = some (.pointer (some ⟨b.p, off, none⟩))) (hy : evO F y = some (.agg news))
    (hi : (Tryd.prog.info? ty).map (·.size) = some news.size) (hfit : Nat.ble (off + news.size) b.cs.size = true) (h1 : oneAll news = true) (hcs : lay b.cs off news = cs)
    (next : ∀ w' a', Hp w0 (H.set i ⟨b.p, b.t, cs⟩) w' → EnvD DF N F a' → wpList Tryd.prog ops Q rest a' w') : wpList Tryd.prog ops Q (o :: rest) a w :=
  wpList_step fun K hK => by
    rw [if_pos hw]
    exact store_does ho (he.op hx) (he.op hy) (hH.at hb) hi (Nat.le_of_ble_eq_true hfit) (oneAll_mem h1) (fun w' hB hf _ => hK _ _ (by rw [hd]; exact next _ _ (hH.set hb (hcs ▸ hB) hf) (he.put0 _)))
end

/-! ### Steps of a region that draws its order -/
section
variable {P : Program} {md : Region.Mode} {ops : Array Oper} {Q : Exit → Act → World → Prop} {a : Act} {w : World} {S : World → Prop} {fuel : Nat} {listed : Array Bool} {DF : List Deferred} {N k : Nat} {F : List (Nat × Value)}
/-- An operation that may come up yields the same in whatever world that is held. -/
theorem hV {i : Nat} {o : Oper} (v : Value) (he : EnvD DF N F a) (ho : ops[i]? = some o) (hd : o.dst = some k) (hk : Nat.blt k N = true) (hs : Region.noSelect ops = true) (hf : Region.free md ops listed i = true) (hr : (Region.ready md ops listed).contains i = true)
    (hQ : ∀ c a w, Q (.panic c) (a.put o.dst v) w → Q (.panic c) a w) (hw : Region.wanted o (yielded ops a.tmps) = true) (h : ∀ w', S w' → (execOp a.eval o).run P w' = .ok (.value v) w') (hS : S w)
    (next : ∀ a', EnvD DF N ((k, v) :: F) a' → wpAnyH P md ops Q S fuel (listed.setIfInBounds i true) a' w) : wpAnyH P md ops Q S (fuel + 1) listed a w :=
  wpAnyH_take ho hs hf hr hQ (Or.inl ⟨hw, h⟩) hS (by rw [hd]; exact next _ (he.put hk v))
/-- The same, with fewer conditions. -/
theorem hW {i : Nat} {o : Oper} (v : Value) (he : EnvD DF N F a) (h4 : (ops[i]?, o.dst, o.guard, Nat.blt k N) = (some o, some k, none, true)) (h3 : (Region.noSelect ops && Region.free md ops listed i && (Region.ready md ops listed).contains i) = true)
    (hQ : ∀ c a w, Q (.panic c) (a.put o.dst v) w → Q (.panic c) a w) (h : ∀ w', S w' → (execOp a.eval o).run P w' = .ok (.value v) w') (hS : S w)
    (next : ∀ a', EnvD DF N ((k, v) :: F) a' → wpAnyH P md ops Q S fuel (listed.setIfInBounds i true) a' w) : wpAnyH P md ops Q S (fuel + 1) listed a w := by
  simp only [Bool.and_eq_true] at h3
  exact hV v he (congrArg (·.1) h4) (congrArg (·.2.1) h4) (congrArg (·.2.2.2) h4) h3.1.1 h3.1.2 h3.2 hQ (wanted_plain (congrArg (·.2.2.1) h4) _) h hS next
theorem hSkip {i : Nat} {o : Oper} (he : EnvD DF N F a) (ho : ops[i]? = some o) (hd : o.dst = some k) (hk : Nat.blt k N = true) (hs : Region.noSelect ops = true) (hf : Region.free md ops listed i = true) (hr : (Region.ready md ops listed).contains i = true)
    (hQ : ∀ c a w, Q (.panic c) (a.put o.dst undef) w → Q (.panic c) a w) (hw : Region.wanted o (yielded ops a.tmps) = false) (hS : S w)
    (next : ∀ a', EnvD DF N ((k, undef) :: F) a' → wpAnyH P md ops Q S fuel (listed.setIfInBounds i true) a' w) : wpAnyH P md ops Q S (fuel + 1) listed a w :=
  wpAnyH_take ho hs hf hr hQ (Or.inr ⟨hw, rfl⟩) hS (by rw [hd]; exact next _ (he.put hk undef))
/-- A call that alone may come up. -/
theorem hC {i : Nat} {o : Oper} {f : FuncId} {fn : Func} {c : Code} {l : List Operand} {ats : Array TypeId} {vl : List Value} {R : Ending → World → Prop} (he : EnvD DF N F a) (hr : Region.ready md ops listed = [i]) (hoi : ops[i]? = some o) (hd : o.dst = some k) (hk : Nat.blt k N = true)
    (hf : P.funcs[f]? = some fn) (hname : (fn.name == "runtime.NumGoroutine") = false) (hb : fn.body = some c) (ho : o.op = .call { callee := .value (.func f), args := l.toArray, argTypes := ats })
    (hw : Region.wanted o (yielded ops a.tmps) = true) (hv : evL F l = some vl) (hc : Calls P f vl.toArray w R)
    (next : ∀ e w', R e w' → ∃ v, e = .returned v ∧ S w' ∧ ∀ a', EnvD DF N ((k, v) :: F) a' → wpAnyH P md ops Q S fuel (listed.setIfInBounds i true) a' w') : wpAnyH P md ops Q S (fuel + 1) listed a w :=
  allH hr hoi hw (fun K hK => wp_callF hf hname hb ho (he.args hv) (hc.mono fun e w' h => let ⟨v, h1, hS, h2⟩ := next e w' h; ⟨v, h1, hK _ _ hS (by rw [hd]; exact h2 _ (he.put hk v))⟩))
/-- An operation that alone may come up, and yields a value in the world at hand. -/
theorem hVa {i : Nat} {o : Oper} (v : Value) (he : EnvD DF N F a) (hr : Region.ready md ops listed = [i]) (hoi : ops[i]? = some o) (hd : o.dst = some k) (hk : Nat.blt k N = true) (hw : Region.wanted o (yielded ops a.tmps) = true)
    (hrun : (execOp a.eval o).run P w = .ok (.value v) w) (hS : S w) (next : ∀ a', EnvD DF N ((k, v) :: F) a' → wpAnyH P md ops Q S fuel (listed.setIfInBounds i true) a' w) : wpAnyH P md ops Q S (fuel + 1) listed a w :=
  allH hr hoi hw (fun _ hK => wp_val hrun (hK _ _ hS (by rw [hd]; exact next _ (he.put hk v))))
/-- Three allocations in whatever order. -/
theorem hThree {i j l x y z : Nat} {oi oj ok : Oper} {t : TypeId} {cs : Array Value} {w0 : World} {H : List Bk} (hij : i ≠ j) (hik : i ≠ l) (hjk : j ≠ l) (hxy : x ≠ y) (hxz : x ≠ z) (hyz : y ≠ z) (he : EnvD DF N F a) (kx : Nat.blt x N = true) (ky : Nat.blt y N = true) (kz : Nat.blt z N = true)
    (hi : ops[i]? = some oi) (hj : ops[j]? = some oj) (hk : ops[l]? = some ok) (gi : oi.guard = none) (gj : oj.guard = none) (gk : ok.guard = none) (di : oi.dst = some x) (dj : oj.dst = some y) (dk : ok.dst = some z)
    (ri : ∀ (a : Act) (w : World), (execOp a.eval oi).run P w = .ok (.value (.pointer (some ⟨w.heap.size, 0, none⟩))) (w.alloc (.cells cs t)))
    (rj : ∀ (a : Act) (w : World), (execOp a.eval oj).run P w = .ok (.value (.pointer (some ⟨w.heap.size, 0, none⟩))) (w.alloc (.cells cs t)))
    (rk : ∀ (a : Act) (w : World), (execOp a.eval ok).run P w = .ok (.value (.pointer (some ⟨w.heap.size, 0, none⟩))) (w.alloc (.cells cs t)))
    (r0 : Region.ready md ops listed = [i, j, l]) (r1 : Region.ready md ops (listed.setIfInBounds i true) = [j, l]) (r2 : Region.ready md ops (listed.setIfInBounds j true) = [i, l]) (r3 : Region.ready md ops (listed.setIfInBounds l true) = [i, j])
    (r12 : Region.ready md ops ((listed.setIfInBounds i true).setIfInBounds j true) = [l]) (r13 : Region.ready md ops ((listed.setIfInBounds i true).setIfInBounds l true) = [j]) (r23 : Region.ready md ops ((listed.setIfInBounds j true).setIfInBounds l true) = [i])
    (hS : ∀ w w' : World, S w → New w w' → S w') (hH : Hp w0 H w) (h0 : S w)
    (next : ∀ p q r w' a', New w w' → S w' → Hp w0 (⟨p, t, cs⟩ :: ⟨q, t, cs⟩ :: ⟨r, t, cs⟩ :: H) w' → EnvD DF N ((z, .pointer (some ⟨r, 0, none⟩)) :: (y, .pointer (some ⟨q, 0, none⟩)) :: (x, .pointer (some ⟨p, 0, none⟩)) :: F) a' →
      wpAnyH P md ops Q S fuel (((listed.setIfInBounds i true).setIfInBounds j true).setIfInBounds l true) a' w') :
    wpAnyH P md ops Q S (fuel + 3) listed a w :=
  three hij hik hjk hxy hxz hyz hi hj hk gi gj gk di dj dk ri rj rk r0 r1 r2 r3 r12 r13 r23 hS h0 (fun p q r hpq hpr hqr p1 q1 r1 p2 q2 r2 s => by
    have n1 : New w (w.alloc (.cells cs t)) := (Fr.refl _ _).alloc _
    have n2 : New w ((w.alloc (.cells cs t)).alloc (.cells cs t)) := Fr.alloc n1 _
    have n3 : New w (((w.alloc (.cells cs t)).alloc (.cells cs t)).alloc (.cells cs t)) := Fr.alloc n2 _
    have hz : ∀ j, w.heap.size ≤ j → j < w.heap.size + 3 → Blk (((w.alloc (.cells cs t)).alloc (.cells cs t)).alloc (.cells cs t)) j t cs := fun j h1 h2 => by
      have h3 : j = w.heap.size ∨ j = w.heap.size + 1 ∨ j = w.heap.size + 2 := by omega
      rcases h3 with rfl | rfl | rfl
      · exact ((Blk.new w _ _).alloc _).alloc _
      · have := (Blk.new (w.alloc (.cells cs t)) t cs).alloc (.cells cs t)
        rwa [show (w.alloc (.cells cs t)).heap.size = w.heap.size + 1 by simp] at this
      · have := Blk.new ((w.alloc (.cells cs t)).alloc (.cells cs t)) t cs
        rwa [show ((w.alloc (.cells cs t)).alloc (.cells cs t)).heap.size = w.heap.size + 2 by simp] at this
    refine next p q r _ _ n3 s ?_ (((he.put kx _).put ky _).put kz _)
    have hH3 := hH.call n3
    have key : ∀ c ∈ H, c.p < w.heap.size := fun c hc => (hH.bl c hc).2.lt
    have hlo := hH.new.size
    refine ⟨hH3.new, ?_, ?_⟩
    · intro u v b c hu hv huv
      match u, v, hu, hv, huv with
      | 0, 0, _, _, e => exact absurd rfl e
      | 1, 1, _, _, e => exact absurd rfl e
      | 2, 2, _, _, e => exact absurd rfl e
      | 0, 1, hu, hv, _ => simp at hu hv; subst hu; subst hv; exact hpq
      | 0, 2, hu, hv, _ => simp at hu hv; subst hu; subst hv; exact hpr
      | 1, 0, hu, hv, _ => simp at hu hv; subst hu; subst hv; exact hpq.symm
      | 1, 2, hu, hv, _ => simp at hu hv; subst hu; subst hv; exact hqr
      | 2, 0, hu, hv, _ => simp at hu hv; subst hu; subst hv; exact hpr.symm
      | 2, 1, hu, hv, _ => simp at hu hv; subst hu; subst hv; exact hqr.symm
      | 0, v + 3, hu, hv, _ => simp at hu hv; subst hu; have := key c (List.mem_of_getElem? hv); simp only; omega
      | 1, v + 3, hu, hv, _ => simp at hu hv; subst hu; have := key c (List.mem_of_getElem? hv); simp only; omega
      | 2, v + 3, hu, hv, _ => simp at hu hv; subst hu; have := key c (List.mem_of_getElem? hv); simp only; omega
      | u + 3, 0, hu, hv, _ => simp at hu hv; subst hv; have := key b (List.mem_of_getElem? hu); simp only; omega
      | u + 3, 1, hu, hv, _ => simp at hu hv; subst hv; have := key b (List.mem_of_getElem? hu); simp only; omega
      | u + 3, 2, hu, hv, _ => simp at hu hv; subst hv; have := key b (List.mem_of_getElem? hu); simp only; omega
      | u + 3, v + 3, hu, hv, e => exact hH.nd u v b c (by simpa using hu) (by simpa using hv) (by omega)
    · intro b hb
      rcases List.mem_cons.1 hb with rfl | hb
      · exact ⟨Nat.le_trans hlo p1, hz p p1 p2⟩
      rcases List.mem_cons.1 hb with rfl | hb
      · exact ⟨Nat.le_trans hlo q1, hz q q1 q2⟩
      rcases List.mem_cons.1 hb with rfl | hb
      · exact ⟨Nat.le_trans hlo r1, hz r r1 r2⟩
      · exact hH3.bl b hb)
end
section
variable {md : Region.Mode} {ops : Array Oper} {Q : Exit → Act → World → Prop} {a : Act} {w w0 : World} {S : World → Prop} {fuel : Nat} {listed : Array Bool} {DF : List Deferred} {N k : Nat} {F : List (Nat × Value)} {H : List Bk}
/-- A store that alone may come up, into block number i of the call's own. -/
theorem hSet {n : Nat} {o : Oper} (i : Nat) {off : Nat} {b : Bk} {cs news : Array Value} {ty : TypeId} {x y : Operand} (he : EnvD DF N F a) (hH : Hp w0 H w) (hr : Region.ready md ops listed = [n]) (hoi : ops[n]? = some o) (hd : o.dst = none) (hw : Region.wanted o (yielded ops a.tmps) = true)
    (ho : o.op = .store ty x y) (hb : H[i]? = some b) (hx : evO F x = some (.pointer (some ⟨b.p, off, none⟩))) (hy : evO F y = some (.agg news))
    (hi : (Tryd.prog.info? ty).map (·.size) = some news.size) (hfit : Nat.ble (off + news.size) b.cs.size = true) (h1 : oneAll news = true) (hcs : lay b.cs off news = cs)
    (next : ∀ w' a', Hp w0 (H.set i ⟨b.p, b.t, cs⟩) w' → Fr (fun k => k = b.p) w w' → EnvD DF N F a' → S w' ∧ wpAnyH Tryd.prog md ops Q S fuel (listed.setIfInBounds n true) a' w') : wpAnyH Tryd.prog md ops Q S (fuel + 1) listed a w :=
  allH hr hoi hw (fun K hK => store_does ho (he.op hx) (he.op hy) (hH.at hb) hi (Nat.le_of_ble_eq_true hfit) (oneAll_mem h1) (fun w' hB hf _ => by
    have := next w' (a.put none undef) (hH.set hb (hcs ▸ hB) hf) hf (he.put0 _)
    rw [hd]
    exact hK _ _ this.1 this.2))
end
theorem seq3_cut {P : Program} {Q : Exit → Act → World → Prop} {a : Act} {w : World} {x y u z : Code} (I : Act → World → Prop) (hz : ∀ a w, I a w → z.wp P Q a w)
    (h : ∀ z' : Code, (∀ a w, I a w → z'.wp P Q a w) → (x.seq (y.seq (u.seq z'))).wp P Q a w) : (x.seq (y.seq (u.seq z))).wp P Q a w := h z hz
theorem least (p : Nat → Prop) : ∀ n, p n → ∃ m, p m ∧ ∀ k, p k → m ≤ k := by
  intro n
  induction n using Nat.strongRecOn with
  | _ n ih =>
    intro hn
    by_cases h : ∃ k, k < n ∧ p k
    · obtain ⟨k, hk, hp⟩ := h
      exact ih k hk hp
    · exact ⟨n, hn, fun k hk => Nat.le_of_not_lt fun hlt => h ⟨k, hlt, hk⟩⟩
section
variable {P : Program} {Q : Exit → Act → World → Prop} {a : Act} {w : World}
/-- A loop whose rounds count down. -/
theorem loop_nat {c : Code} (I : Nat → Act → World → Prop) (n : Nat) (h0 : I n a w) (round : ∀ m a w, I m a w → c.wp P (Exit.then (fun a' w' => ∃ m', m' < m ∧ I m' a' w') Q) a w) : (Code.loop c).wp P Q a w := by
  classical
  have hl : ∀ a w, (∃ m, I m a w) → ∃ m, I m a w ∧ ∀ k, I k a w → m ≤ k := fun a w ⟨m, h⟩ => least (fun m => I m a w) m h
  refine wp_loop (fun a w => ∃ m, I m a w) (fun a w => if h : ∃ m, I m a w then Classical.choose (hl a w h) else 0) ⟨n, h0⟩ (fun a w hI => ?_)
  have hm := Classical.choose_spec (hl a w hI)
  refine wp_mono (round _ a w hm.1) (fun e a' w' h => ?_)
  cases e with
  | normal =>
    obtain ⟨m', hlt, h'⟩ := h
    have hE : ∃ m, I m a' w' := ⟨m', h'⟩
    refine ⟨hE, ?_⟩
    simp only [dif_pos hE, dif_pos hI]
    exact Nat.lt_of_le_of_lt ((Classical.choose_spec (hl a' w' hE)).2 m' h') hlt
  | _ => exact h
end

section
variable {ρ : Operand → Value} {o : Oper} {x y : Operand}
theorem rn_ext {i : Nat} {vs : Array Value} {v : Value} (h : o.op = .extract x i) (hx : ρ x = .tuple vs) (hv : vs[i]? = some v) (w : World) : (execOp ρ o).run Tryd.prog w = .ok (.value v) w := by
  obtain ⟨dst, op, ty, pos, after, guard⟩ := o
  simp only at h
  subst h
  go_simp
end

section
variable {ops : Array Oper} {Q : Exit → Act → World → Prop} {a : Act} {w : World} {rest : List Oper} {o : Oper} {N k : Nat} {F : List (Nat × Value)}
end

/-- A type of records: its numbers, and the cells of each. -/
structure Rec (α : Type) where
  sz : Nat
  ty : TypeId
  sl : TypeId
  ls : α → List Value
  z : Value
  by_ : Nat
  len : ∀ x, (ls x).length = sz
  pos : 0 < sz
  one : ∀ x, ∀ u ∈ ls x, u.oneCell' = true
  info : (Tryd.prog.info? ty).map (fun i => (i.zero, i.size, i.bytes)) = some (some z, sz, by_)
  zc : z.cells.size = sz
  small : by_ ≤ 100000
  und : Tryd.prog.underlying sl = some (.slice ty)
  row : sz ≠ 1 → ∃ d, Tryd.prog.underlying ty = some d ∧ d.isRow = true

section
variable {α : Type} (R : Rec α)
def flatG (l : List α) : List Value := l.flatMap R.ls
theorem flatG_cons (c : α) (l : List α) : flatG R (c :: l) = R.ls c ++ flatG R l := rfl
theorem flatG_append (l m : List α) : flatG R (l ++ m) = flatG R l ++ flatG R m := by simp [flatG]
theorem flatG_len (l : List α) : (flatG R l).length = l.length * R.sz := by
  induction l with
  | nil => simp [flatG]
  | cons c l ih => rw [flatG_cons, List.length_append, R.len, ih, List.length_cons, Nat.add_mul]; omega
theorem flatG_at (l : List α) (i j : Nat) (hi : i < l.length) (hj : j < R.sz) : (flatG R l)[i * R.sz + j]? = (R.ls l[i])[j]? := by
  induction l generalizing i with
  | nil => simp at hi
  | cons c l ih =>
    rw [flatG_cons]
    cases i with
    | zero => rw [List.getElem?_append_left (by rw [R.len]; omega)]; simp
    | succ i =>
      rw [List.getElem?_append_right (by rw [R.len, Nat.add_mul]; omega), R.len, show (i + 1) * R.sz + j - R.sz = i * R.sz + j by rw [Nat.add_mul]; omega, ih i (by simpa using hi)]
      rfl
theorem flatG_one (l : List α) : ∀ u ∈ flatG R l, u.oneCell' = true := by
  intro u hu
  obtain ⟨c, _, h⟩ := List.mem_flatMap.1 hu
  exact R.one c u h
theorem flatG_take (l : List α) (k : Nat) : (flatG R l).take (k * R.sz) = flatG R (l.take k) := by
  induction l generalizing k with
  | nil => simp [flatG]
  | cons c l ih =>
    cases k with
    | zero => simp [flatG]
    | succ k =>
      rw [flatG_cons, List.take_succ_cons, flatG_cons, ← ih, List.take_append, R.len, List.take_of_length_le (by rw [R.len, Nat.add_mul]; omega)]
      congr 2
      rw [Nat.add_mul]; omega
theorem flatG_drop (l : List α) (k : Nat) : (flatG R l).drop (k * R.sz) = flatG R (l.drop k) := by
  induction l generalizing k with
  | nil => simp [flatG]
  | cons c l ih =>
    cases k with
    | zero => simp [flatG]
    | succ k =>
      rw [flatG_cons, List.drop_succ_cons, ← ih, List.drop_append, R.len, List.drop_eq_nil_of_le (by rw [R.len, Nat.add_mul]; omega), List.nil_append]
      congr 1
      rw [Nat.add_mul]; omega

/-- The slice with address A and length n holds the records l; they lie in block b, if there are any. -/
def RdG (w : World) (b : Nat) (A : Option Addr) (n : Nat) (l : List α) : Prop :=
  l.length = n ∧ (0 < n → ∃ o, A = some ⟨b, o, none⟩ ∧ b < w.heap.size ∧ ∀ j, j < n * R.sz → w.cell? ⟨b, o + j, none⟩ = (flatG R l)[j]?)
variable {R}
variable {S : Nat → Prop} {w w' : World} {b n : Nat} {A : Option Addr} {l : List α}
theorem RdG.nil (w : World) (b : Nat) (A : Option Addr) : RdG R w b A 0 [] := ⟨rfl, fun h => absurd h (by omega)⟩
theorem RdG.fr (h : RdG R w b A n l) (hf : Fr S w w') (hn : ¬ S b) : RdG R w' b A n l := by
  refine ⟨h.1, fun h0 => ?_⟩
  obtain ⟨o, rfl, hb, hc⟩ := h.2 h0
  exact ⟨o, rfl, Nat.lt_of_lt_of_le hb hf.size, fun j hj => (hf.cell (p := ⟨b, o + j, none⟩) hb hn).trans (hc j hj)⟩
theorem RdG.new (h : RdG R w b A n l) (hf : New w w') : RdG R w' b A n l := h.fr hf (fun h => h)
theorem RdG.low {w0 w'' : World} (h0 : RdG R w0 b A n l) (hn : New w0 w') (hf : Fr (fun k => w0.heap.size ≤ k) w' w'') : RdG R w'' b A n l := by
  refine ⟨h0.1, fun h => ?_⟩
  obtain ⟨o, rfl, hb, hc⟩ := h0.2 h
  refine ⟨o, rfl, Nat.lt_of_lt_of_le hb (Nat.le_trans hn.size hf.size), fun j hj => ?_⟩
  have hn' := hn.size
  rw [hf.cell (p := ⟨b, o + j, none⟩) (Nat.lt_of_lt_of_le hb hn') (by simp only; omega), hn.cell (p := ⟨b, o + j, none⟩) hb (fun h => h)]
  exact hc j hj
theorem RdG.base (h : RdG R w b A n l) (hn : 0 < n) : ∃ o, A = some ⟨b, o, none⟩ := by
  obtain ⟨o, h, _⟩ := h.2 hn
  exact ⟨o, h⟩
theorem RdG.of_own {base : Nat} {e : TypeId} {c : Nat} (h : w.ownsRow base e R.sz (.slice A n c) n (flatG R l)) (hl : l.length = n) (hA : ∀ k, (Value.slice A n c).ownBlock = some k → k = b) : RdG R w b A n l := by
  refine ⟨hl, fun hn => ?_⟩
  rcases h.2 with ⟨_, h0⟩ | ⟨g, cap, cur, hv, _, hh, _, _, _, ht⟩
  · omega
  · injection hv with hA'
    subst hA'
    have hg : g = b := hA g rfl
    subst hg
    refine ⟨0, rfl, Blk.lt hh, fun j hj => ?_⟩
    rw [Blk.cell hh, ← ht, List.getElem?_take, if_pos hj]
    simp
theorem own_sliceG {w : World} {base sz : Nat} {e : TypeId} {v : Value} {n : Nat} {xs : List Value} (h : w.ownsRow base e sz v n xs) : ∃ A c, v = .slice A n c ∧ n ≤ c ∧ c ≤ maxLen := by
  rcases h.2 with ⟨rfl, rfl⟩ | ⟨g, cap, cur, rfl, _, _, hc, hm, _⟩
  · exact ⟨none, 0, rfl, Nat.le_refl _, Nat.zero_le _⟩
  · exact ⟨_, cap, rfl, hc, hm⟩
theorem own_len {w : World} {base : Nat} {v : Value} {n : Nat} {l : List α} (h : w.ownsRow base R.ty R.sz v n (flatG R l)) : l.length = n := by
  have e := h.1
  rw [flatG_len] at e
  exact Nat.eq_of_mul_eq_mul_right R.pos e
theorem own_rdg {w : World} {base : Nat} {v : Value} {n : Nat} {l : List α} (h : w.ownsRow base R.ty R.sz v n (flatG R l)) : ∃ b A c, v = .slice A n c ∧ n ≤ c ∧ RdG R w b A n l := by
  have hl := own_len h
  obtain ⟨A, c, rfl, hc, _⟩ := own_sliceG h
  rcases A with _ | a
  · exact ⟨0, none, c, rfl, hc, RdG.of_own h hl (fun k hk => by simp [Value.ownBlock] at hk)⟩
  · exact ⟨a.block, _, c, rfl, hc, RdG.of_own h hl (fun k hk => by simpa [Value.ownBlock] using hk.symm)⟩

/-- The cells of a record of a slice. -/
theorem RdG.cells {o i : Nat} {c : α} (h : RdG R w b (some ⟨b, o, none⟩) n l) (hc : l[i]? = some c) : w.rangeAt b (o + i * R.sz) (R.ls c) := by
  obtain ⟨hl, e⟩ := List.getElem?_eq_some_iff.1 hc
  have hi : i < n := by rw [← h.1]; exact hl
  obtain ⟨o', ho', _, hcell⟩ := h.2 (by omega)
  obtain rfl : o = o' := by simpa using ho'
  intro j v hv
  have hj : j < R.sz := by
    have := (List.getElem?_eq_some_iff.1 hv).1
    rwa [R.len] at this
  have h1 : i * R.sz + j < n * R.sz := by
    have : (i + 1) * R.sz ≤ n * R.sz := Nat.mul_le_mul_right _ hi
    rw [Nat.add_mul] at this
    omega
  rw [Nat.add_assoc, hcell (i * R.sz + j) h1, flatG_at R l i j hl hj, e]
  exact hv
theorem run_load1 {ty : TypeId} {k : IntKind} (hu : Tryd.prog.underlying ty = some (.int k)) {b o : Nat} {v : Value} (hc : w.cell? ⟨b, o, none⟩ = some v) : (Instr.loadAt ty (.pointer (some ⟨b, o, none⟩))).run Tryd.prog w = .ok v w := by
  have hn : (isAgg ty).run Tryd.prog w = .ok false w := by simp [isAgg, run_underlying hu]
  simp only [Instr.loadAt, Instr.sureAddr, loadVar, Sem.run_bind, Sem.run_pure, Result.andThen_ok, hn]
  rw [if_neg (by decide), run_load, hc]
section
variable {ρ : Operand → Value} {o : Oper} {x : Operand}
/-- A record is loaded from a slice. -/
theorem rn_loadG {off o0 i : Nat} {c : α} (hr : RdG R w b (some ⟨b, o0, none⟩) n l) (h : o.op = .load R.ty x) (hx : ρ x = .pointer (some ⟨b, off, none⟩)) (hoff : off = o0 + i * R.sz) (hc : l[i]? = some c) (h1 : R.sz ≠ 1 := by decide) :
    (execOp ρ o).run Tryd.prog w = .ok (.value (.agg (R.ls c).toArray)) w := by
  subst hoff
  obtain ⟨d, hu, hd⟩ := R.row h1
  obtain ⟨inf, hi, _, hz1, _⟩ := info_parts R.info
  have hs : (Tryd.prog.info? R.ty).map (·.size) = some (R.ls c).length := by rw [hi, R.len]; simp [hz1]
  unfold execOp
  simp only [h, hx, run_loadAt_mid w b (o0 + i * R.sz) R.ty (R.ls c) _ (hr.cells hc) hu hd hs, Sem.run_bind, Sem.run_pure, Result.andThen_ok]
/-- A number is loaded from a record of a slice. -/
theorem rn_loadG1 {ty : TypeId} {k : IntKind} {off o0 i j : Nat} {c : α} {v : Value} (hr : RdG R w b (some ⟨b, o0, none⟩) n l) (hu : Tryd.prog.underlying ty = some (.int k)) (h : o.op = .load ty x) (hx : ρ x = .pointer (some ⟨b, off, none⟩)) (hoff : off = o0 + i * R.sz + j) (hc : l[i]? = some c) (hv : (R.ls c)[j]? = some v) :
    (execOp ρ o).run Tryd.prog w = .ok (.value v) w := by
  subst hoff
  unfold execOp
  simp only [h, hx, run_load1 hu ((hr.cells hc) j v hv), Sem.run_bind, Sem.run_pure, Result.andThen_ok]
/-- A row is loaded from a record of a slice. -/
theorem rn_loadGp {ty : TypeId} {d : TypeDesc} {off o0 i j : Nat} {c : α} {vs : List Value} (hr : RdG R w b (some ⟨b, o0, none⟩) n l) (hu : Tryd.prog.underlying ty = some d) (hd : d.isRow = true) (hs : (Tryd.prog.info? ty).map (·.size) = some vs.length) (h : o.op = .load ty x) (hx : ρ x = .pointer (some ⟨b, off, none⟩)) (hoff : off = o0 + i * R.sz + j) (hc : l[i]? = some c) (hv : ((R.ls c).drop j).take vs.length = vs) :
    (execOp ρ o).run Tryd.prog w = .ok (.value (.agg vs.toArray)) w := by
  subst hoff
  have hR : w.rangeAt b (o0 + i * R.sz + j) vs := fun q v hq => by
    rw [Nat.add_assoc]
    refine hr.cells hc (j + q) v ?_
    rw [← hv] at hq
    rw [List.getElem?_take] at hq
    split at hq
    · rwa [List.getElem?_drop] at hq
    · cases hq
  unfold execOp
  simp only [h, hx, run_loadAt_mid w b _ ty vs _ hR hu hd hs, Sem.run_bind, Sem.run_pure, Result.andThen_ok]
end

/-- A block reads as a slice of records. -/
theorem rdg_lit (w : World) (l : List α) (cs : Array Value) (h : cs.toList = flatG R l) (n : Nat) (hn : l.length = n) : RdG R (w.alloc (.cells cs R.ty)) w.heap.size (some ⟨w.heap.size, 0, none⟩) n l :=
  ⟨hn, fun _ => ⟨0, rfl, by simp, fun j _ => by
    rw [Nat.zero_add, (Blk.new w R.ty cs).cell j, ← h]
    simp⟩⟩
theorem rdg_blk {g : Nat} {t : TypeId} {cs : Array Value} (hB : Blk w g t cs) (h : cs.toList = flatG R l) (hn : l.length = n) : RdG R w g (some ⟨g, 0, none⟩) n l :=
  ⟨hn, fun _ => ⟨0, rfl, hB.lt, fun j _ => by
    rw [Nat.zero_add, hB.cell j, ← h]
    simp⟩⟩

/-- append of records onto a row of the call's own, whatever the source is. -/
theorem run_appendG (w : World) (base : Nat) (ty : TypeId) (v : Value) (n : Nat) (l : List α) (hown : w.ownsRow base R.ty R.sz v n (flatG R l))
    (b : Nat) (A : Option Addr) (m c : Nat) (news : List α) (hr : RdG R w b A m news) (hnm : n + m ≤ 100000000) (hbase : base ≤ w.heap.size) :
    ∃ v' w', (Builtin.append_ #[R.sl, R.sl] ty #[v, .slice A m c]).run Tryd.prog w = .ok v' w' ∧ w'.ownsRow base R.ty R.sz v' (n + m) (flatG R (l ++ news)) ∧ w.grownBy w' v.ownBlock := by
  obtain ⟨i, hi, hz, hsize, hby⟩ := info_parts R.info
  have ht := R.und
  have hmb : (n + m) * R.by_ ≤ 140737488355328 := Nat.le_trans (Nat.mul_le_mul hnm R.small) (by decide)
  rcases Nat.eq_zero_or_pos m with rfl | hm
  · have hn : news = [] := List.eq_nil_of_length_eq_zero hr.1
    subst hn
    rcases A with _ | ad
    · refine ⟨v, w, ?_, by simpa using hown, ⟨rfl, rfl, rfl, Nat.le_refl _, fun _ _ _ => rfl⟩⟩
      rcases hown.2 with ⟨rfl, rfl⟩ | ⟨g, cap, cur, rfl, _, _, hnc, _⟩
      · simp [Builtin.append_, run_underlying ht, sizeOf, typeInfo, hi, Builtin.lenOf, Builtin.firstCells]
      · simp [Builtin.append_, run_underlying ht, sizeOf, typeInfo, hi, Builtin.lenOf, Builtin.firstCells, hnc, storeCells]
    · obtain ⟨v', w', h2, h3, h4, _, h5⟩ := run_append_own_at (P := Tryd.prog) w base R.sl ty R.ty i _ R.sz R.by_ ht hi hz hsize hby R.zc R.pos v n (flatG R l) hown ad 0 c [] (by simp) (by simp) (by simp) (by unfold maxLen; omega) (by simpa using hmb) hbase
      exact ⟨v', w', h2, by simpa using h3, h4⟩
  · obtain ⟨o, rfl, _, hc⟩ := hr.2 hm
    obtain ⟨v', w', h2, h3, h4, _, h5⟩ := run_append_own_at (P := Tryd.prog) w base R.sl ty R.ty i _ R.sz R.by_ ht hi hz hsize hby R.zc R.pos v n (flatG R l) hown ⟨b, o, none⟩ m c (flatG R news) (by rw [flatG_len, hr.1]) (fun j u hu => by
      have hj : j < m * R.sz := by
        have := (List.getElem?_eq_some_iff.1 hu).1
        rw [flatG_len, hr.1] at this
        exact this
      rw [addr_add, hc j hj, hu]) (flatG_one R news) (by unfold maxLen; omega) hmb hbase
    exact ⟨v', w', h2, by rw [flatG_append]; exact h3, h4⟩
section
variable {ops : Array Oper} {Q : Exit → Act → World → Prop} {a : Act} {rest : List Oper} {o : Oper} {N k : Nat} {F : List (Nat × Value)}
theorem lAppG {s x : Operand} {base m c : Nat} {v : Value} {news : List α} (hown : w.ownsRow base R.ty R.sz v n (flatG R l)) (hr : RdG R w b A m news) (he : Env N F a) (hd : o.dst = some k) (hk : Nat.blt k N = true) (hw : Region.wanted o (yielded ops a.tmps) = true)
    (ho : o.op = .call { callee := .builtin .append, args := #[s, x], argTypes := #[R.sl, R.sl] }) (hs : evO F s = some v)
    (hx : evO F x = some (.slice A m c)) (hnm : n + m ≤ 100000000) (hbase : base ≤ w.heap.size)
    (next : ∀ v' w' a', w'.ownsRow base R.ty R.sz v' (n + m) (flatG R (l ++ news)) → w.grownBy w' v.ownBlock → Env N ((k, v') :: F) a' → wpList Tryd.prog ops Q rest a' w') : wpList Tryd.prog ops Q (o :: rest) a w := by
  obtain ⟨v', w', hrun, h2, h3⟩ := run_appendG w base o.type v n l hown b A m c news hr hnm hbase
  refine wpList_step fun K hK => ?_
  rw [if_pos hw]
  unfold Oper.wp execOp
  simp only [ho, resolve, invoke, builtin, Sem.run_bind, Sem.run_pure, Result.andThen_ok, List.map_toArray, List.map_cons, List.map_nil, he.op hs, he.op hx, hrun]
  exact hK _ _ (by rw [hd]; exact next _ _ _ h2 h3 (he.put hk v'))
end
end

section
variable {ρ : Operand → Value} {o : Oper}
theorem rn_not {x : Operand} {b : Bool} (h : o.op = .unOp .not 4 x) (hv : ρ x = .bool b) (w : World) : (execOp ρ o).run Tryd.prog w = .ok (.value (.bool (!b))) w := by
  unfold execOp
  simp only [h, hv]
  kernel_rfl
theorem rn_pk0 {x y z : Operand} {v : Value} (h : o.op = .pick x y z) (hc : ρ x = .bool false) (hv : ρ z = v) (w : World) : (execOp ρ o).run Tryd.prog w = .ok (.value v) w := by
  subst hv
  unfold execOp
  simp only [h, hc]
  kernel_rfl
end
section
variable {P : Program} {ops : Array Oper} {Q : Exit → Act → World → Prop} {a : Act} {w : World} {rest : List Oper} {o : Oper}
end

section
variable {ρ : Operand → Value} {o : Oper} {x y : Operand}
/-- A number out of a block. -/
theorem rn_ld1 {ty : TypeId} {k : IntKind} {g off : Nat} {t : TypeId} {cs : Array Value} {v : Value} {w : World} (h : o.op = .load ty x) (hx : ρ x = .pointer (some ⟨g, off, none⟩)) (hu : Tryd.prog.underlying ty = some (.int k)) (hB : Blk w g t cs) (hv : cs[off]? = some v) :
    (execOp ρ o).run Tryd.prog w = .ok (.value v) w := by
  unfold execOp
  simp only [h, hx, run_load1 hu ((hB.cell off).trans hv), Sem.run_bind, Sem.run_pure, Result.andThen_ok]
/-- A row out of a block. -/
theorem rn_ldp {ty : TypeId} {d : TypeDesc} {g off : Nat} {t : TypeId} {cs : Array Value} (vs : List Value) {w : World} (h : o.op = .load ty x) (hx : ρ x = .pointer (some ⟨g, off, none⟩)) (hu : Tryd.prog.underlying ty = some d) (hd : d.isRow = true) (hs : (Tryd.prog.info? ty).map (·.size) = some vs.length) (hB : Blk w g t cs) (hv : (cs.toList.drop off).take vs.length = vs) :
    (execOp ρ o).run Tryd.prog w = .ok (.value (.agg vs.toArray)) w := by
  have hR : w.rangeAt g off vs := fun q v hq => by
    rw [hB.cell (off + q)]
    rw [← hv, List.getElem?_take] at hq
    split at hq
    · rw [List.getElem?_drop] at hq
      simpa using hq
    · cases hq
  unfold execOp
  simp only [h, hx, run_loadAt_mid w g off ty vs _ hR hu hd hs, Sem.run_bind, Sem.run_pure, Result.andThen_ok]
end

section
variable {ρ : Operand → Value} {o : Oper} {x y : Operand}
theorem rn_mv {x : Operand} {v : Value} (h : o.op = .move x) (hv : ρ x = v) (w : World) : (execOp ρ o).run Tryd.prog w = .ok (.value v) w := by
  subst hv
  unfold execOp
  simp only [h]
  kernel_rfl
theorem rn_asg {x : Operand} {v : Value} (h : o.op = .assign x) (hv : ρ x = v) (w : World) : (execOp ρ o).run Tryd.prog w = .ok (.value v) w := by
  subst hv
  unfold execOp
  simp only [h]
  kernel_rfl
theorem rn_pk {x y z : Operand} {v : Value} (h : o.op = .pick x y z) (hc : ρ x = .bool true) (hv : ρ y = v) (w : World) : (execOp ρ o).run Tryd.prog w = .ok (.value v) w := by
  subst hv
  unfold execOp
  simp only [h, hc]
  kernel_rfl
end

/-- What is stored into a block, whatever follows: a number or a row. -/
theorem storeV_does {w : World} {o : Oper} {a : Act} {Q : Exit → Act → World → Prop} {K : Act → World → Prop} {ty : TypeId} {x y : Operand} (ho : o.op = .store ty x y)
    {g i : Nat} {t : TypeId} {cur news : Array Value} {v : Value} (hx : a.eval x = .pointer (some ⟨g, i, none⟩)) (hy : a.eval y = v) (hv : v.cells = news) (hg : Blk w g t cur)
    (hi : (Tryd.prog.info? ty).map (·.size) = some news.size) (hfit : i + news.size ≤ cur.size) (h1 : ∀ u ∈ news.toList, u.oneCell' = true)
    (h : ∀ w', Blk w' g t (lay cur i news) → Fr (fun k => k = g) w w' → w'.heap.size = w.heap.size → K (a.put o.dst undef) w') : Oper.wp Tryd.prog o a w K Q := by
  have hs := run_storeCells_at Tryd.prog g i t news.toList 0 cur w hg (by simpa using hfit) h1
  have hrun : (storeVar ty ⟨g, i, none⟩ v).run Tryd.prog w = .ok () (w.setRow g (lay cur i news)) := by
    cases hq : Tryd.prog.info? ty with
    | none => simp [hq] at hi
    | some inf =>
      have hsz : news.size = inf.size := by simp [hq] at hi; omega
      simp only [Nat.add_zero, Array.length_toList] at hs
      simp [storeVar, sizeOf, typeInfo, hq, hv, hsz, hs, lay]
  unfold Oper.wp execOp
  simp only [ho, hx, hy, Instr.storeAt, Instr.sureAddr, Sem.run_bind, Sem.run_pure, Result.andThen_ok, hrun]
  exact h _ (setRow_heap w g cur _ t _ hg) (fr_setRow w g _) (by simp)
section
variable {DF : List Deferred} {ops : Array Oper} {Q : Exit → Act → World → Prop} {a : Act} {w w0 : World} {rest : List Oper} {o : Oper} {N k : Nat} {F : List (Nat × Value)} {H : List Bk}
theorem hSetV {md : Region.Mode} {S : World → Prop} {fuel : Nat} {listed : Array Bool} {n : Nat} (i : Nat) {off : Nat} {b : Bk} (news : Array Value) {v : Value} {cs : Array Value} {ty : TypeId} {x y : Operand} (he : EnvD DF N F a) (hH : Hp w0 H w) (hr : Region.ready md ops listed = [n]) (hoi : ops[n]? = some o) (hd : o.dst = none) (hw : Region.wanted o (yielded ops a.tmps) = true)
    (ho : o.op = .store ty x y) (hb : H[i]? = some b) (hx : evO F x = some (.pointer (some ⟨b.p, off, none⟩))) (hy : evO F y = some v) (hv : v.cells = news)
    (hi : (Tryd.prog.info? ty).map (·.size) = some news.size) (hfit : Nat.ble (off + news.size) b.cs.size = true) (h1 : oneAll news = true) (hcs : lay b.cs off news = cs)
    (next : ∀ w' a', Hp w0 (H.set i ⟨b.p, b.t, cs⟩) w' → Fr (fun k => k = b.p) w w' → EnvD DF N F a' → S w' ∧ wpAnyH Tryd.prog md ops Q S fuel (listed.setIfInBounds n true) a' w') : wpAnyH Tryd.prog md ops Q S (fuel + 1) listed a w :=
  allH hr hoi hw (fun K hK => storeV_does ho (he.op hx) (he.op hy) hv (hH.at hb) hi (Nat.le_of_ble_eq_true hfit) (oneAll_mem h1) (fun w' hB hf _ => by
    have := next w' (a.put none undef) (hH.set hb (hcs ▸ hB) hf) hf (he.put0 _)
    rw [hd]
    exact hK _ _ this.1 this.2))
/-- Returned out of a block. -/
theorem ret_row {fn : Func} {p : Tmp} {ty t : TypeId} {d : TypeDesc} {g : Nat} {cs : Array Value} {R : Ending → World → Prop} (hf : fn.results = #[.cell p ty]) (he : Env N F a) (hp : lk F p = some (.pointer (some ⟨g, 0, none⟩))) (hg : Blk w g t cs) (hu : Tryd.prog.underlying ty = some d) (hd : d.isRow = true) (hi : (Tryd.prog.info? ty).map (·.size) = some cs.size)
    (hR : R (.returned (.agg cs)) w) : bodyPost Tryd.prog fn R .ret a w :=
  bodyPost_ret (results_cell_row (P := Tryd.prog) hf a.tmps w g t cs (0, 0) _ (he.ev _ _ hp) hg hu (by cases d <;> first | rfl | cases hd) hi) he.df hR
theorem ret_rowt {fn : Func} {p u : Tmp} {ty t : TypeId} {d : TypeDesc} {g : Nat} {cs : Array Value} {v : Value} {R : Ending → World → Prop} (hf : fn.results = #[.cell p ty, .tmp u]) (he : Env N F a) (hp : lk F p = some (.pointer (some ⟨g, 0, none⟩))) (hv : lk F u = some v) (hg : Blk w g t cs) (hu : Tryd.prog.underlying ty = some d) (hd : d.isRow = true) (hi : (Tryd.prog.info? ty).map (·.size) = some cs.size)
    (hR : R (.returned (.tuple #[.agg cs, v])) w) : bodyPost Tryd.prog fn R .ret a w := by
  refine bodyPost_ret ?_ he.df hR
  have e1 : a.tmps.getD p undef = .pointer (some ⟨g, 0, none⟩) := he.ev _ _ hp
  have e2 : a.tmps.getD u undef = v := he.ev _ _ hv
  rw [results_cell_tmp hf, e1, e2]
  simp only [asAddr, Sem.run_pure, Result.andThen_ok, run_loadVar_row (P := Tryd.prog) w g t ty cs (0, 0) _ hg hu (by cases d <;> first | rfl | cases hd) hi]
theorem ret_tt {fn : Func} {p u : Tmp} {x v : Value} {R : Ending → World → Prop} (hf : fn.results = #[.tmp p, .tmp u]) (he : Env N F a) (hp : lk F p = some x) (hv : lk F u = some v)
    (hR : R (.returned (.tuple #[x, v])) w) : bodyPost Tryd.prog fn R .ret a w := by
  have e1 : a.tmps.getD p undef = x := he.ev _ _ hp
  have e2 : a.tmps.getD u undef = v := he.ev _ _ hv
  exact bodyPost_ret ((results_tmp2 hf a.tmps Tryd.prog w).trans (by rw [e1, e2])) he.df hR
end

theorem Hp.drop1 {w0 w : World} {H : List Bk} (h : Hp w0 H w) (i : Nat) {G : List Bk} (e : H.eraseIdx i = G) : Hp w0 G w := by
  subst e
  have key : ∀ (j : Nat) (b : Bk), (H.eraseIdx i)[j]? = some b → ∃ j', H[j']? = some b ∧ j' ≠ i ∧ (j' = if j < i then j else j + 1) := by
    intro j b hj
    rw [List.getElem?_eraseIdx] at hj
    split at hj
    · rename_i hlt; exact ⟨j, hj, by omega, by rw [if_pos hlt]⟩
    · rename_i hlt; exact ⟨j + 1, hj, by omega, by rw [if_neg hlt]⟩
  refine ⟨h.new, ?_, fun b hb => h.bl b (List.mem_of_mem_eraseIdx hb)⟩
  intro j k b c hj hk hjk
  obtain ⟨j', h1, -, e1⟩ := key j b hj
  obtain ⟨k', h2, -, e2⟩ := key k c hk
  exact h.nd j' k' b c h1 h2 (fun e => hjk (by split at e1 <;> split at e2 <;> omega))
section
variable {P : Program} {ops : Array Oper} {Q : Exit → Act → World → Prop} {S : World → Prop} {md : Region.Mode} {fuel : Nat} {listed : Array Bool} {a : Act} {w w0 : World} {N k : Nat} {F : List (Nat × Value)} {H : List Bk}
/-- An allocation that alone may come up. -/
theorem hNew {i : Nat} {o : Oper} (mk : Nat → Value) {t : TypeId} {cs : Array Value} (he : Env N F a) (hH : Hp w0 H w) (hr : Region.ready md ops listed = [i]) (hoi : ops[i]? = some o) (hd : o.dst = some k) (hk : Nat.blt k N = true)
    (hw : Region.wanted o (yielded ops a.tmps) = true) (h : (execOp a.eval o).run P w = .ok (.value (mk w.heap.size)) (w.alloc (.cells cs t)))
    (next : ∀ p w' a', New w w' → Hp w0 (⟨p, t, cs⟩ :: H) w' → Env N ((k, mk p) :: F) a' → S w' ∧ wpAnyH P md ops Q S fuel (listed.setIfInBounds i true) a' w') : wpAnyH P md ops Q S (fuel + 1) listed a w :=
  allH hr hoi hw (fun K hK => wp_valw h (by
    have := next w.heap.size _ _ ((Fr.refl _ _).alloc _) (hH.alloc t cs) (he.put hk (mk w.heap.size))
    rw [hd]
    exact hK _ _ this.1 this.2))
theorem does_call {f : FuncId} {fn : Func} {c : Code} {l : List Operand} {ats : Array TypeId} {vs : Array Value} {R : Ending → World → Prop} {post : Value → World → Prop} {o : Oper} (hf : P.funcs[f]? = some fn) (hname : (fn.name == "runtime.NumGoroutine") = false) (hb : fn.body = some c)
    (ho : o.op = .call { callee := .value (.func f), args := l.toArray, argTypes := ats }) (hv : l.toArray.map a.eval = vs) (hc : Calls P f vs w R) (h : ∀ e w', R e w' → ∃ v, e = .returned v ∧ post v w') : Does P Q o a w post :=
  fun _ hK => wp_callF hf hname hb ho hv (hc.mono fun e w' hr => let ⟨v, h1, h2⟩ := h e w' hr; ⟨v, h1, hK _ _ h2⟩)
/-- A call that returns this, beside an allocation: either comes first. -/
theorem hCA {i j x y : Nat} {oi oj : Oper} (mk : Nat → Value) {t : TypeId} {cs : Array Value} {f : FuncId} {fn : Func} {c : Code} {l : List Operand} {ats : Array TypeId} {vl : List Value} {v : Value} (he : Env N F a) (hH : Hp w0 H w) (kx : Nat.blt x N = true) (ky : Nat.blt y N = true)
    (r0 : Region.ready md ops listed = [i, j]) (rj : Region.ready md ops (listed.setIfInBounds j true) = [i])
    (hi : ops[i]? = some oi) (hj : ops[j]? = some oj) (di : oi.dst = some x) (dj : oj.dst = some y) (gi : oi.guard = none) (gj : oj.guard = none)
    (hf : P.funcs[f]? = some fn) (hname : (fn.name == "runtime.NumGoroutine") = false) (hb : fn.body = some c) (ho : oi.op = .call { callee := .value (.func f), args := l.toArray, argTypes := ats }) (hv : ∀ u, evL ((y, u) :: F) l = some vl) (hv0 : evL F l = some vl)
    (hc : ∀ w, New w0 w → Calls P f vl.toArray w fun e w' => e = .returned v ∧ New w w') (hal : ∀ (a : Act) (w : World), (execOp a.eval oj).run P w = .ok (.value (mk w.heap.size)) (w.alloc (.cells cs t)))
    (hS : ∀ w', Hp w0 H w' → S w')
    (first : ∀ w' a', Hp w0 H w' → Env N ((x, v) :: F) a' → wpAnyH P md ops Q S (fuel + 1) (listed.setIfInBounds i true) a' w')
    (second : ∀ p w' a', Hp w0 (⟨p, t, cs⟩ :: H) w' → Env N ((x, v) :: (y, mk p) :: F) a' → wpAnyH P md ops Q S fuel ((listed.setIfInBounds j true).setIfInBounds i true) a' w') : wpAnyH P md ops Q S (fuel + 2) listed a w := by
  refine stepH (fuel := fuel + 1) r0 (by simp) (fun n hn => ?_)
  rcases List.mem_cons.1 hn with rfl | hn
  · refine ⟨oi, hi, wanted_plain gi _, (fun u w' => u = v ∧ New w w'), does_call hf hname hb ho (he.args hv0) (hc w hH.new) (fun e w' h => ⟨v, h.1, rfl, h.2⟩), ?_⟩
    rintro v' w1 ⟨rfl, n1⟩
    have h1 := hH.call n1
    rw [di]
    exact ⟨hS _ h1, first _ _ h1 (he.put kx _)⟩
  · obtain rfl := List.mem_singleton.1 hn
    refine ⟨oj, hj, wanted_plain gj _, (fun u w2 => u = mk w.heap.size ∧ w2 = w.alloc (.cells cs t)), Does.val (hal _ _) ⟨rfl, rfl⟩, ?_⟩
    rintro u w1 ⟨rfl, rfl⟩
    have h1 := hH.alloc t cs
    have n1 : New w (w.alloc (.cells cs t)) := (Fr.refl _ _).alloc _
    refine ⟨hS _ (hH.call n1), stepH (fuel := fuel) rj (by simp) (fun m hm => ?_)⟩
    obtain rfl := List.mem_singleton.1 hm
    rw [dj]
    refine ⟨oi, hi, wanted_plain gi _, (fun u w' => u = v ∧ New (w.alloc (.cells cs t)) w'), does_call hf hname hb ho ((he.put ky (mk w.heap.size)).args (hv _)) (hc _ h1.new) (fun e w' h => ⟨v, h.1, rfl, h.2⟩), ?_⟩
    rintro v' w2 ⟨rfl, n2⟩
    rw [di]
    exact ⟨hS _ ((hH.call n1).call n2), second _ _ _ (h1.call n2) ((he.put ky _).put kx _)⟩

/-! ### Whatever the order -/
def depsOf (md : Region.Mode) (o : Oper) : List Nat := (o.after.toList.filter (Region.binds md)).map (·.on)
def dstOf (ops : Array Oper) (j : Nat) : Nat := ((ops[j]?).bind (·.dst)).getD 0
/-- What is known of the slots that the region doesn't write, and of the world. -/
structure Base (N : Nat) (F : List (Nat × Value)) (S : World → Prop) (a : Act) (w : World) : Prop where
  env : Env N F a
  held : S w
/-- One operation of it: behind those that it waits for it does what is known of it. -/
def StepOk (P : Program) (md : Region.Mode) (ops : Array Oper) (Q : Exit → Act → World → Prop) (N : Nat) (F : List (Nat × Value)) (S : World → Prop) (I : Nat → Value → World → Prop) (k : Nat) (o : Oper) : Prop :=
  ∀ a w, Base N F S a w → (∀ j, (depsOf md o).contains j = true → I j (a.eval (.tmp (dstOf ops j))) w) →
    (Region.wanted o (yielded ops a.tmps) = false ∧ I k undef w) ∨ (Region.wanted o (yielded ops a.tmps) = true ∧ Does P Q o a w (fun v w' => New w w' ∧ I k v w'))
def StepsAll (P : Program) (md : Region.Mode) (ops : Array Oper) (Q : Exit → Act → World → Prop) (N : Nat) (F : List (Nat × Value)) (S : World → Prop) (I : Nat → Value → World → Prop) : Nat → List Oper → Prop
  | _, [] => True
  | k, o :: l => StepOk P md ops Q N F S I k o ∧ StepsAll P md ops Q N F S I (k + 1) l
theorem StepsAll.at {I : Nat → Value → World → Prop} : ∀ {l : List Oper} {i : Nat}, StepsAll P md ops Q N F S I i l → ∀ k o, l[k]? = some o → StepOk P md ops Q N F S I (i + k) o := by
  intro l
  induction l with
  | nil => intro i _ k o h; simp at h
  | cons x l ih =>
    intro i h k o hk
    cases k with
    | zero => simp only [List.getElem?_cons_zero, Option.some.injEq] at hk; subst hk; exact h.1
    | succ k =>
      have := ih h.2 k o (by simpa using hk)
      rwa [show i + 1 + k = i + (k + 1) by omega] at this
/-- The slots written are different ones, not among those that are known, and each operation waits for earlier ones alone. -/
def okOps (N : Nat) (F : List (Nat × Value)) : Nat → List Oper → List Nat → Bool
  | _, [], _ => true
  | k, o :: l, seen => (match o.dst with
    | some s => Nat.blt s N && !(seen.contains s) && (lk F s).isNone && o.after.toList.all (fun e => Nat.blt e.on k) && okOps N F (k + 1) l (s :: seen)
    | none => false)
theorem okOps_at : ∀ {l : List Oper} {i : Nat} {seen : List Nat}, okOps N F i l seen = true → ∀ k o, l[k]? = some o → ∃ s, o.dst = some s ∧ s < N ∧ s ∉ seen ∧ lk F s = none ∧ (∀ e ∈ o.after, e.on < i + k) ∧ ∀ j oj, j < k → l[j]? = some oj → oj.dst ≠ some s := by
  intro l
  induction l with
  | nil => intro i seen _ k o h; simp at h
  | cons x l ih =>
    intro i seen h k o hk
    simp only [okOps] at h
    cases hx : x.dst with
    | none => rw [hx] at h; cases h
    | some s =>
      rw [hx] at h
      simp only [Bool.and_eq_true, Bool.not_eq_true', Option.isNone_iff_eq_none, List.all_eq_true, Nat.blt_eq] at h
      obtain ⟨⟨⟨⟨h1, h2⟩, h3⟩, h4⟩, h5⟩ := h
      have h2' : s ∉ seen := fun hm => by
        have : seen.contains s = true := by simpa using hm
        rw [this] at h2; cases h2
      cases k with
      | zero =>
        simp only [List.getElem?_cons_zero, Option.some.injEq] at hk
        subst hk
        exact ⟨s, hx, h1, h2', h3, fun e he => by have := h4 e (by simpa using he); omega, fun j oj hj => by omega⟩
      | succ k =>
        obtain ⟨s', g1, g2, g3, g4, g5, g6⟩ := ih h5 k o (by simpa using hk)
        refine ⟨s', g1, g2, fun hm => g3 (List.mem_cons_of_mem _ hm), g4, fun e he => by have := g5 e he; omega, fun j oj hj hoj => ?_⟩
        cases j with
        | zero =>
          simp only [List.getElem?_cons_zero, Option.some.injEq] at hoj
          subst hoj
          rw [hx]
          simp only [ne_eq, Option.some.injEq]
          exact fun e => g3 (by rw [e]; exact List.mem_cons_self)
        | succ j => exact g6 j oj (by omega) (by simpa using hoj)
structure Got (N : Nat) (ops : Array Oper) (F : List (Nat × Value)) (S : World → Prop) (I : Nat → Value → World → Prop) (listed : Array Bool) (a : Act) (w : World) : Prop where
  size : listed.size = ops.size
  base : Base N F S a w
  got : ∀ k, listed.getD k false = true → I k (a.eval (.tmp (dstOf ops k))) w
theorem dst_at {k s : Nat} {o : Oper} (h : ops[k]? = some o) (hd : o.dst = some s) : dstOf ops k = s := by simp [dstOf, h, hd]
theorem EnvD.off {DF : List Deferred} {s : Nat} (he : EnvD DF N F a) (hf : lk F s = none) (v : Value) : EnvD DF N F (a.put (some s) v) := by
  refine ⟨by rw [sz_put]; exact he.sz, he.df, fun j u h => ?_⟩
  have hne : j ≠ s := fun e => by rw [e, hf] at h; cases h
  rw [ev_ne hne]
  exact he.ev j u h
theorem any_order {I : Nat → Value → World → Prop} (hok : okOps N F 0 ops.toList [] = true) (hI : ∀ k v w w', I k v w → New w w' → I k v w') (hS : ∀ w w', S w → New w w' → S w')
    (steps : StepsAll P md ops Q N F S I 0 ops.toList) (fin : ∀ a w, Base N F S a w → (∀ k, k < ops.size → I k (a.eval (.tmp (dstOf ops k))) w) → Q .normal a w) :
    ∀ (fuel : Nat) (listed : Array Bool) (a : Act) (w : World), Got N ops F S I listed a w → (listed.toList.filter (!·)).length ≤ fuel → wpAny P md ops Q fuel listed a w := by
  have hat : ∀ k o, ops[k]? = some o → ops.toList[k]? = some o := fun k o h => by rw [Array.getElem?_toList]; exact h
  have inj : ∀ (k j : Nat) (o oj : Oper) (s : Nat), ops[k]? = some o → ops[j]? = some oj → o.dst = some s → oj.dst = some s → k = j := by
    intro k j o oj s hk hj hd hd'
    rcases Nat.lt_trichotomy k j with h | h | h
    · obtain ⟨s', g1, _, _, _, _, g6⟩ := okOps_at hok j oj (hat _ _ hj)
      rw [hd'] at g1
      obtain rfl : s = s' := by simpa using g1
      exact absurd hd (g6 k o h (hat _ _ hk))
    · exact h
    · obtain ⟨s', g1, _, _, _, _, g6⟩ := okOps_at hok k o (hat _ _ hk)
      rw [hd] at g1
      obtain rfl : s = s' := by simpa using g1
      exact absurd hd' (g6 j oj h (hat _ _ hj))
  have nxt : ∀ (listed : Array Bool) (a : Act) (w w' : World) (k : Nat) (o : Oper) (v : Value), ops[k]? = some o → Got N ops F S I listed a w → New w w' → I k v w' → Got N ops F S I (listed.setIfInBounds k true) (a.put o.dst v) w' := by
    intro listed a w w' k o v hk h hn hv
    obtain ⟨s, g1, g2, _, g4, _, _⟩ := okOps_at hok k o (hat _ _ hk)
    rw [g1]
    refine ⟨by simpa using h.size, ⟨h.base.env.off g4 v, hS _ _ h.base.held hn⟩, fun j hj => ?_⟩
    by_cases hjk : k = j
    · subst hjk
      rw [dst_at hk g1, ev_same (by rw [h.base.env.sz]; exact g2)]
      exact hv
    · rw [getD_set_ne false hjk] at hj
      have hg := hI _ _ _ _ (h.got j hj) hn
      have hjl : j < ops.size := by
        rw [← h.size]
        rcases Nat.lt_or_ge j listed.size with h' | h'
        · exact h'
        · simp [Array.getElem?_eq_none h'] at hj
      have hoj : ops[j]? = some ops[j] := Array.getElem?_eq_getElem hjl
      obtain ⟨s', g1', _⟩ := okOps_at hok j _ (hat _ _ hoj)
      have hne : s' ≠ s := fun e => hjk (inj k j o _ s hk hoj g1 (by rw [g1', e]))
      rw [dst_at hoj g1', ev_ne hne]
      rwa [dst_at hoj g1'] at hg
  have done : ∀ (listed : Array Bool) (a : Act) (w : World), Got N ops F S I listed a w → Region.ready md ops listed = [] → ∀ k, k < ops.size → listed.getD k false = true := by
    intro listed a w h hr k
    induction k using Nat.strongRecOn with
    | _ k ih =>
      intro hk
      cases e : listed.getD k false with
      | true => rfl
      | false =>
        have hoj : ops[k]? = some ops[k] := Array.getElem?_eq_getElem hk
        obtain ⟨s, _, _, _, _, g5, _⟩ := okOps_at hok k _ (hat _ _ hoj)
        have : k ∈ Region.ready md ops listed := by
          rw [mem_ready]
          refine ⟨?_, _, hoj, fun x hx _ => ih x.on (by have := g5 x hx; omega) (by have := g5 x hx; omega)⟩
          have hl : k < listed.size := by rw [h.size]; exact hk
          simp only [Array.getD, hl, dif_pos] at e ⊢
          exact e
        rw [hr] at this
        cases this
  have count : ∀ (listed : Array Bool) (k : Nat), listed.getD k true = false → ((listed.setIfInBounds k true).toList.filter (!·)).length + 1 ≤ (listed.toList.filter (!·)).length := by
    intro listed k hk
    have hl : k < listed.toList.length := by
      rcases Nat.lt_or_ge k listed.size with h' | h'
      · simpa using h'
      · simp [Array.getElem?_eq_none h'] at hk
    have hv : listed.toList[k] = false := by
      simp only [Array.length_toList] at hl
      simp only [Array.getD, hl, dif_pos] at hk
      simpa using hk
    rw [Array.toList_setIfInBounds]
    generalize listed.toList = L at hl hv
    have e1 : L.set k true = L.take k ++ true :: L.drop (k + 1) := by rw [List.set_eq_take_append_cons_drop, if_pos hl]
    have e2 : L = L.take k ++ false :: L.drop (k + 1) := by
      conv => lhs; rw [← List.take_append_drop k L, List.drop_eq_getElem_cons hl, hv]
    rw [e1]
    conv => rhs; rw [e2]
    simp only [List.filter_append, List.length_append]
    simp
    omega
  intro fuel
  induction fuel with
  | zero =>
    intro listed a w h hf
    have hr : Region.ready md ops listed = [] := by
      rw [List.eq_nil_iff_forall_not_mem]
      intro k hk
      have := count listed k (mem_ready.1 hk).1
      omega
    exact ⟨hr, fin a w h.base (fun k hk => h.got k (done listed a w h hr k hk))⟩
  | succ fuel ih =>
    intro listed a w h hf
    refine ⟨fun hr => fin a w h.base (fun k hk => h.got k (done listed a w h hr k hk)), fun k hk => ?_⟩
    have hc := count listed k (mem_ready.1 hk).1
    obtain ⟨hk0, o, hko, hall⟩ := mem_ready.1 hk
    have hs := steps.at k o (hat _ _ hko)
    rw [Nat.zero_add] at hs
    have hd : ∀ j, (depsOf md o).contains j = true → I j (a.eval (.tmp (dstOf ops j))) w := by
      intro j hj
      have hj' : j ∈ depsOf md o := by simpa using hj
      obtain ⟨e, he, rfl⟩ := List.mem_map.1 hj'
      obtain ⟨he1, he2⟩ := List.mem_filter.1 he
      exact h.got _ (hall e (by simpa using he1) he2)
    unfold wpOp
    rw [hko]
    rcases hs a w h.base hd with ⟨hw, hi⟩ | ⟨hw, hdo⟩
    · simp only [hw, Bool.false_eq_true, if_false]
      exact ih _ _ _ (nxt listed a w w k o undef hko h (Fr.refl _ _) hi) (by omega)
    · simp only [hw, if_true]
      refine .inl (hdo _ (fun v w' hv => ih _ _ _ (nxt listed a w w' k o v hko h hv.1 hv.2) (by omega)))
/-- The beginning: a region that draws its order. -/
theorem region_any {id : Nat} {I : Nat → Value → World → Prop} (hm : P.follows .mixedOrders = true) (he : Env N F a) (hS0 : S w.drew) (hok : okOps N F 0 ops.toList [] = true) (hI : ∀ k v w w', I k v w → New w w' → I k v w') (hS : ∀ w w', S w → New w w' → S w')
    (steps : StepsAll P .any ops Q N F S I 0 ops.toList) (fin : ∀ a w, Base N F S a w → (∀ k, k < ops.size → I k (a.eval (.tmp (dstOf ops k))) w) → Q .normal a w) : (Code.region id ops true).wp P Q a w :=
  wp_region_any hm (any_order hok hI hS steps fin ops.size _ a _ ⟨by simp, ⟨he, hS0⟩, fun k hk => by
    by_cases h : k < ops.size <;> simp [h] at hk⟩ (by
      refine Nat.le_trans (List.length_filter_le _ _) (by simp)))
end

section
variable {ρ : Operand → Value} {o : Oper} {x y : Operand} {w : World}
end
section
variable {DF : List Deferred} {P : Program} {md : Region.Mode} {ops : Array Oper} {Q : Exit → Act → World → Prop} {a : Act} {w : World} {S : World → Prop} {fuel : Nat} {listed : Array Bool} {N k : Nat} {F : List (Nat × Value)}
/-- An operation that alone may come up. -/
theorem hX {i : Nat} {o : Oper} {v : Value} {w' : World} (he : EnvD DF N F a) (hr : Region.ready md ops listed = [i]) (hoi : ops[i]? = some o) (hd : o.dst = some k) (hk : Nat.blt k N = true) (hw : Region.wanted o (yielded ops a.tmps) = true)
    (hrun : (execOp a.eval o).run P w = .ok (.value v) w') (hS : S w') (next : ∀ a', EnvD DF N ((k, v) :: F) a' → wpAnyH P md ops Q S fuel (listed.setIfInBounds i true) a' w') : wpAnyH P md ops Q S (fuel + 1) listed a w :=
  allH hr hoi hw (fun _ hK => wp_valw hrun (hK _ _ hS (by rw [hd]; exact next _ (he.put hk v))))
/-- The same of which something is known. -/
theorem hEx {i : Nat} {o : Oper} {R : Value → World → Prop} (he : EnvD DF N F a) (hr : Region.ready md ops listed = [i]) (hoi : ops[i]? = some o) (hd : o.dst = some k) (hk : Nat.blt k N = true) (hw : Region.wanted o (yielded ops a.tmps) = true)
    (hrun : ∃ v' w', (execOp a.eval o).run P w = .ok (.value v') w' ∧ R v' w') (next : ∀ v' w', R v' w' → S w' ∧ ∀ a', EnvD DF N ((k, v') :: F) a' → wpAnyH P md ops Q S fuel (listed.setIfInBounds i true) a' w') : wpAnyH P md ops Q S (fuel + 1) listed a w := by
  obtain ⟨v', w', h1, h2⟩ := hrun
  obtain ⟨h3, h4⟩ := next v' w' h2
  exact hX he hr hoi hd hk hw h1 h3 h4
theorem lEx {rest : List Oper} {o : Oper} {R : Value → World → Prop} (he : EnvD DF N F a) (hd : o.dst = some k) (hk : Nat.blt k N = true) (hw : Region.wanted o (yielded ops a.tmps) = true)
    (hrun : ∃ v' w', (execOp a.eval o).run P w = .ok (.value v') w' ∧ R v' w') (next : ∀ v' w', R v' w' → ∀ a', EnvD DF N ((k, v') :: F) a' → wpList P ops Q rest a' w') : wpList P ops Q (o :: rest) a w := by
  obtain ⟨v', w', h1, h2⟩ := hrun
  exact lV v' he hd hk hw h1 (next v' w' h2)
end
section
variable {DF : List Deferred} {ops : Array Oper} {Q : Exit → Act → World → Prop} {a : Act} {w w0 : World} {rest : List Oper} {o : Oper} {N k : Nat} {F : List (Nat × Value)} {H : List Bk}
/-- A store into a block of the call's own; no other block turns. -/
theorem lSetF (i : Nat) {off : Nat} {b : Bk} (news : Array Value) {v : Value} {cs : Array Value} {ty : TypeId} {x y : Operand} (he : EnvD DF N F a) (hH : Hp w0 H w) (hd : o.dst = none) (hw : Region.wanted o (yielded ops a.tmps) = true)
    (ho : o.op = .store ty x y) (hb : H[i]? = some b) (hx : evO F x = some (.pointer (some ⟨b.p, off, none⟩))) (hy : evO F y = some v) (hv : v.cells = news)
    (hi : (Tryd.prog.info? ty).map (·.size) = some news.size) (hfit : Nat.ble (off + news.size) b.cs.size = true) (h1 : oneAll news = true) (hcs : lay b.cs off news = cs)
    (next : ∀ w' a', Hp w0 (H.set i ⟨b.p, b.t, cs⟩) w' → Fr (fun k => k = b.p) w w' → EnvD DF N F a' → wpList Tryd.prog ops Q rest a' w') : wpList Tryd.prog ops Q (o :: rest) a w :=
  wpList_step fun K hK => by
    rw [if_pos hw]
    exact storeV_does ho (he.op hx) (he.op hy) hv (hH.at hb) hi (Nat.le_of_ble_eq_true hfit) (oneAll_mem h1) (fun w' hB hf _ => hK _ _ (by rw [hd]; exact next _ _ (hH.set hb (hcs ▸ hB) hf) hf (he.put0 _)))
end

abbrev FP := Nat → Prop
/-- A datum: what is to be read in a world, out of these blocks alone. -/
structure Dat where
  P : World → FP → Prop
  fr : ∀ {w w' : World} {F S : FP}, P w F → Fr S w w' → (∀ k, F k → ¬ S k) → P w' F
  up : ∀ {w : World} {F G : FP}, P w F → (∀ k, F k → G k) → P w G
/-- Data that lie apart. -/
def SepL : List Dat → World → FP → Prop
  | [], _, _ => True
  | d :: D, w, G => ∃ F H : FP, d.P w F ∧ SepL D w H ∧ (∀ k, F k → H k → False) ∧ (∀ k, F k → G k) ∧ (∀ k, H k → G k)

section
variable {w w' : World} {F G S : FP} {A B D : List Dat} {d : Dat}
theorem SepL.up (h : SepL D w F) (hs : ∀ k, F k → G k) : SepL D w G := by
  cases D with
  | nil => trivial
  | cons d D =>
    obtain ⟨A, B, h1, h2, h3, h4, h5⟩ := h
    exact ⟨A, B, h1, h2, h3, fun k hk => hs k (h4 k hk), fun k hk => hs k (h5 k hk)⟩
theorem SepL.fr (h : SepL D w F) (hf : Fr S w w') (hn : ∀ k, F k → ¬ S k) : SepL D w' F := by
  induction D generalizing F with
  | nil => trivial
  | cons d D ih =>
    obtain ⟨A, B, h1, h2, h3, h4, h5⟩ := h
    exact ⟨A, B, d.fr h1 hf (fun k hk => hn k (h4 k hk)), ih h2 (fun k hk => hn k (h5 k hk)), h3, h4, h5⟩
theorem SepL.append (ha : SepL A w F) (hb : SepL B w G) (hd : ∀ k, F k → G k → False) : SepL (A ++ B) w (fun k => F k ∨ G k) := by
  induction A generalizing F with
  | nil => exact hb.up (fun k hk => .inr hk)
  | cons d A ih =>
    obtain ⟨X, Y, h1, h2, h3, h4, h5⟩ := ha
    refine ⟨X, fun k => Y k ∨ G k, h1, ih h2 (fun k hk hg => hd k (h5 k hk) hg), fun k hx hy => ?_, fun k hk => .inl (h4 k hk), fun k hk => hk.elim (fun h => .inl (h5 k h)) .inr⟩
    rcases hy with hy | hy
    · exact h3 k hx hy
    · exact hd k (h4 k hx) hy
theorem SepL.split (h : SepL (A ++ B) w G) : ∃ F H : FP, SepL A w F ∧ SepL B w H ∧ (∀ k, F k → H k → False) ∧ (∀ k, F k → G k) ∧ (∀ k, H k → G k) := by
  induction A generalizing G with
  | nil => exact ⟨fun _ => False, G, trivial, h, fun _ h => h.elim, fun _ h => h.elim, fun _ h => h⟩
  | cons d A ih =>
    obtain ⟨X, Y, h1, h2, h3, h4, h5⟩ := h
    obtain ⟨F, H, k1, k2, k3, k4, k5⟩ := ih h2
    refine ⟨fun k => X k ∨ F k, H, ⟨X, F, h1, k1, fun k hx hf => h3 k hx (k4 k hf), fun k hk => .inl hk, fun k hk => .inr hk⟩, k2, fun k hk hh => ?_, fun k hk => hk.elim (h4 k) (fun h => h5 k (k4 k h)), fun k hk => h5 k (k5 k hk)⟩
    rcases hk with hk | hk
    · exact h3 k hk (k5 k hh)
    · exact k3 k hk hh
theorem SepL.perm (hp : A.Perm B) (h : SepL A w G) : SepL B w G := by
  induction hp generalizing G with
  | nil => trivial
  | cons d _ ih =>
    obtain ⟨X, Y, h1, h2, h3, h4, h5⟩ := h
    exact ⟨X, Y, h1, ih h2, h3, h4, h5⟩
  | swap d e L =>
    obtain ⟨X, Y, h1, ⟨X', Y', k1, k2, k3, k4, k5⟩, h3, h4, h5⟩ := h
    refine ⟨X', fun k => X k ∨ Y' k, k1, ⟨X, Y', h1, k2, fun k hx hy => h3 k hx (k5 k hy), fun k hk => .inl hk, fun k hk => .inr hk⟩, fun k hk hx => ?_, fun k hk => h5 k (k4 k hk), fun k hk => hk.elim (h4 k) (fun h => h5 k (k5 k h))⟩
    rcases hx with hx | hx
    · exact h3 k hx (k4 k hk)
    · exact k3 k hk hx
  | trans _ _ ih1 ih2 => exact ih2 (ih1 h)
theorem SepL.one (h : d.P w F) : SepL [d] w F := ⟨F, fun _ => False, h, trivial, fun _ _ h => h, fun _ h => h, fun _ h => h.elim⟩
theorem SepL.the (h : SepL [d] w F) : d.P w F := by
  obtain ⟨X, Y, h1, _, _, h4, _⟩ := h
  exact d.up h1 h4
theorem SepL.two {e : Dat} (h1 : d.P w F) (h2 : e.P w G) (hd : ∀ k, F k → G k → False) : SepL [d, e] w (fun k => F k ∨ G k) := (SepL.one h1).append (SepL.one h2) hd
end

theorem pick_perm {α : Type _} {l : List α} {i : Nat} {d : α} (h : l[i]? = some d) : l.Perm (d :: l.eraseIdx i) := by
  induction l generalizing i with
  | nil => simp at h
  | cons c l ih =>
    cases i with
    | zero => simp at h; subst h; exact List.Perm.refl _
    | succ i => exact ((ih (by simpa using h)).cons c).trans (List.Perm.swap d c _)
/-- A call leaves these data, made out of the blocks of F and of new ones; no other block has turned. -/
def Turned (A : List Dat) (F : FP) (w w' : World) : Prop := Fr F w w' ∧ ∃ F' : FP, SepL A w' F' ∧ ∀ k, F' k → F k ∨ (w.heap.size ≤ k ∧ k < w'.heap.size)
abbrev Made (A : List Dat) (w w' : World) : Prop := Turned A (fun _ => False) w w'
theorem Made.new {A : List Dat} {w w' : World} (h : Made A w w') : New w w' := h.1
theorem Turned.nil {F : FP} {w w' : World} (h : Fr F w w') : Turned [] F w w' := ⟨h, fun _ => False, trivial, fun _ h => h.elim⟩
theorem Turned.up {A : List Dat} {F G : FP} {w w' : World} (h : Turned A F w w') (hs : ∀ k, F k → G k) : Turned A G w w' := by
  obtain ⟨h1, F', h2, h3⟩ := h
  exact ⟨h1.weak (fun k _ hk => hs k hk), F', h2, fun k hk => (h3 k hk).imp (hs k) id⟩
theorem Turned.map {A B : List Dat} {F : FP} {w w' : World} (h : Turned A F w w') (hm : ∀ G, SepL A w' G → SepL B w' G) : Turned B F w w' := by
  obtain ⟨h1, F', h2, h3⟩ := h
  exact ⟨h1, F', hm _ h2, h3⟩

/-- What lies apart from what turns stays. -/
theorem Turned.frame {A B : List Dat} {X Y F : FP} {w w' : World} (ht : Turned A X w w') (hB : SepL B w Y) (hd : ∀ k, X k → Y k → False) (hX : ∀ k, X k → F k) (hY : ∀ k, Y k → F k) (hF : ∀ k, F k → k < w.heap.size) : Turned (A ++ B) F w w' := by
  obtain ⟨hf, F', h1, h2⟩ := ht
  refine ⟨hf.weak (fun k _ hk => hX k hk), _, h1.append (hB.fr hf (fun k hk hx => hd k hx hk)) (fun k hk hy => ?_), fun k hk => ?_⟩
  · rcases h2 k hk with h | h
    · exact hd k h hy
    · have := hF k (hY k hy)
      omega
  · rcases hk with hk | hk
    · exact (h2 k hk).imp (hX k) id
    · exact .inl (hY k hk)
/-- What a walk knows of its data: since the call's begin (world e) only blocks of S0 have turned, and new ones; the data D lie apart from each other and from the walk's blocks ps, of which the last m are read alone. -/
structure Dt (r e : World) (S0 : FP) (m : Nat) (ps : List Nat) (D : List Dat) (w : World) : Prop where
  fr : Fr S0 e w
  tab : Tab w
  s0 : ∀ k, S0 k → NG ≤ k
  rt : ∀ k, (S0 k ∨ e.heap.size ≤ k) → r.heap.size ≤ k
  es : NG ≤ e.heap.size
  wr : ∀ (i p : Nat), ps[i]? = some p → i + m < ps.length → S0 p ∨ e.heap.size ≤ p
  lt : ∀ p ∈ ps, p < w.heap.size
  ex : ∃ G : FP, SepL D w G ∧ ∀ k, G k → (S0 k ∨ e.heap.size ≤ k) ∧ k < w.heap.size ∧ k ∉ ps

theorem Hp.own {w0 w w' : World} {H : List Bk} {S : Nat → Prop} (h : Hp w0 H w) (hf : Fr S w w') (hS : ∀ k, S k → w0.heap.size ≤ k) (hne : ∀ b ∈ H, ¬ S b.p) : Hp w0 H w' :=
  ⟨Fr.trans h.new hf (fun i hi hs => by have := hS i hs; omega), h.nd, fun b hb => ⟨(h.bl b hb).1, (h.bl b hb).2.fr hf (hne b hb)⟩⟩
section
variable {r e w w' : World} {S0 : FP} {m : Nat} {ps : List Nat} {D A B : List Dat} {H : List Bk}
theorem tab_size {w : World} (h : Tab w) : NG ≤ w.heap.size := h.sz
theorem Dt.start (hT : Tab w) : Dt w w (fun _ => False) 0 [] [] w :=
  ⟨Fr.refl _ _, hT, fun _ h => h.elim, fun _ h => h.elim (fun h => h.elim) id, tab_size hT, fun i p h => by simp at h, fun p h => (by cases h), fun _ => False, trivial, fun _ h => h.elim⟩
theorem Dt.new (h : Dt r e S0 m ps D w) (hn : New w w') : Dt r e S0 m ps D w' := by
  obtain ⟨G, h1, h2⟩ := h.ex
  exact ⟨Fr.trans h.fr hn (fun _ _ h => h.elim), h.tab.new hn, h.s0, h.rt, h.es, h.wr, fun p hp => Nat.lt_of_lt_of_le (h.lt p hp) hn.size, G, h1.fr hn (fun _ _ h => h), fun k hk => ⟨(h2 k hk).1, Nat.lt_of_lt_of_le (h2 k hk).2.1 hn.size, (h2 k hk).2.2⟩⟩
/-- One block more. -/
theorem Dt.cons (h : Dt r e S0 m ps D w) {p : Nat} (hn : New w w') (hp : w.heap.size ≤ p) (hl : p < w'.heap.size) : Dt r e S0 m (p :: ps) D w' := by
  have h' := h.new hn
  obtain ⟨G, h1, h2⟩ := h.ex
  refine ⟨h'.fr, h'.tab, h.s0, h.rt, h.es, fun i q hi hlt => ?_, fun q hq => ?_, G, h1.fr hn (fun _ _ h => h), fun k hk => ⟨(h2 k hk).1, Nat.lt_of_lt_of_le (h2 k hk).2.1 hn.size, fun hm => ?_⟩⟩
  · cases i with
    | zero =>
      simp only [List.getElem?_cons_zero, Option.some.injEq] at hi
      subst hi
      exact .inr (Nat.le_trans h.fr.size hp)
    | succ i => exact h.wr i q (by simpa using hi) (by simp only [List.length_cons] at hlt; omega)
  · rcases List.mem_cons.1 hq with rfl | hq
    · exact hl
    · exact h'.lt q hq
  · have hlt := (h2 k hk).2.1
    rcases List.mem_cons.1 hm with rfl | hm
    · omega
    · exact (h2 k hk).2.2 hm
/-- The newest block is not read again. -/
theorem Dt.tail {p : Nat} (h : Dt r e S0 m (p :: ps) D w) : Dt r e S0 m ps D w := by
  obtain ⟨G, h1, h2⟩ := h.ex
  exact ⟨h.fr, h.tab, h.s0, h.rt, h.es, fun i q hi hlt => h.wr (i + 1) q (by simpa using hi) (by simp only [List.length_cons]; omega), fun q hq => h.lt q (List.mem_cons_of_mem _ hq), G, h1, fun k hk => ⟨(h2 k hk).1, (h2 k hk).2.1, fun hm => (h2 k hk).2.2 (List.mem_cons_of_mem _ hm)⟩⟩
/-- A store into a block of the walk. -/
theorem Dt.setb (h : Dt r e S0 m ps D w) {i p : Nat} (hi : ps[i]? = some p) (hm : Nat.blt (i + m) ps.length = true) (hf : Fr (fun k => k = p) w w') : Dt r e S0 m ps D w' := by
  have hm' : i + m < ps.length := by simpa [Nat.blt_eq] using hm
  have hp := h.wr i p hi hm'
  have hmem := List.mem_of_getElem? hi
  obtain ⟨G, h1, h2⟩ := h.ex
  have h2p : NG ≤ p := hp.elim (h.s0 p) (fun hp => Nat.le_trans h.es hp)
  refine ⟨Fr.trans h.fr hf (fun i hi hk => ?_), h.tab.fr hf (fun k hk => by omega), h.s0, h.rt, h.es, h.wr, fun q hq => Nat.lt_of_lt_of_le (h.lt q hq) hf.size, G, h1.fr hf (fun k hk e => (h2 k hk).2.2 (e ▸ hmem)), fun k hk => ⟨(h2 k hk).1, Nat.lt_of_lt_of_le (h2 k hk).2.1 hf.size, (h2 k hk).2.2⟩⟩
  subst hk
  exact hp.elim id (fun h => by omega)
theorem Dt.get (h : Dt r e S0 m ps D w) {i : Nat} {d : Dat} (hi : D[i]? = some d) : ∃ F, d.P w F := by
  obtain ⟨G, h1, _⟩ := h.ex
  obtain ⟨X, _, h3, _⟩ := h1.perm (pick_perm hi)
  exact ⟨X, h3⟩
/-- Other data out of the same blocks. -/
theorem Dt.map (h : Dt r e S0 m ps A w) (hm : ∀ G, SepL A w G → SepL B w G) : Dt r e S0 m ps B w := by
  obtain ⟨G, h1, h2⟩ := h.ex
  exact ⟨h.fr, h.tab, h.s0, h.rt, h.es, h.wr, h.lt, G, hm G h1, h2⟩
theorem Dt.front (h : Dt r e S0 m ps (A ++ D) w) (hm : ∀ G, SepL A w G → SepL B w G) : Dt r e S0 m ps (B ++ D) w := h.map (fun G hG => by
  obtain ⟨X, Y, h1, h2, h3, h4, h5⟩ := hG.split
  exact ((hm X h1).append h2 h3).up (fun k hk => hk.elim (h4 k) (h5 k)))
theorem Dt.pick (h : Dt r e S0 m ps D w) {d : Dat} (i : Nat) (hi : D[i]? = some d) : Dt r e S0 m ps (d :: D.eraseIdx i) w := h.map (fun _ hG => hG.perm (pick_perm hi))
theorem Dt.drop {d : Dat} (h : Dt r e S0 m ps (d :: D) w) : Dt r e S0 m ps D w := h.map (fun G hG => by
  obtain ⟨X, Y, h1, h2, h3, h4, h5⟩ := hG
  exact h2.up h5)
theorem Dt.first (h : Dt r e S0 m ps (A ++ D) w) : Dt r e S0 m ps A w := h.map (fun G hG => by
  obtain ⟨X, Y, h1, h2, h3, h4, h5⟩ := hG.split
  exact h1.up h4)
theorem Dt.same {D' : List Dat} {ps' : List Nat} (h : Dt r e S0 m ps D w) (e1 : D = D') (e2 : ps = ps') : Dt r e S0 m ps' D' w := e1 ▸ e2 ▸ h
/-- A call turns the data at the front. -/
theorem Dt.step (hD : Dt r e S0 m ps (A ++ D) w) : ∃ F : FP, SepL A w F ∧ (∀ k, F k → NG ≤ k ∧ k < w.heap.size) ∧ ∀ A' w', Turned A' F w w' → Dt r e S0 m ps (A' ++ D) w' ∧ ∀ H : List Bk, H.map (·.p) = ps → Hp r H w → Hp r H w' := by
  obtain ⟨G, h1, h2⟩ := hD.ex
  obtain ⟨F, Y, k1, k2, k3, k4, k5⟩ := h1.split
  have hF2 : ∀ k, F k → NG ≤ k := fun k hk => (h2 k (k4 k hk)).1.elim (hD.s0 k) (fun h => Nat.le_trans hD.es h)
  refine ⟨F, k1, fun k hk => ⟨hF2 k hk, (h2 k (k4 k hk)).2.1⟩, fun A' w' ht => ?_⟩
  obtain ⟨hf, F', t1, t2⟩ := ht
  have hY : SepL D w' Y := k2.fr hf (fun k hy hk => k3 k hk hy)
  refine ⟨⟨Fr.trans hD.fr hf (fun k hk hF => ((h2 k (k4 k hF)).1).elim id (fun h => by omega)), hD.tab.fr hf hF2, hD.s0, hD.rt, hD.es, hD.wr, fun p hp => Nat.lt_of_lt_of_le (hD.lt p hp) hf.size, _, t1.append hY (fun k hk hy => ?_), fun k hk => ?_⟩, fun H hH h => ?_⟩
  · rcases t2 k hk with h | h
    · exact k3 k h hy
    · have := (h2 k (k5 k hy)).2.1
      omega
  · rcases hk with hk | hk
    · rcases t2 k hk with h | h
      · exact ⟨(h2 k (k4 k h)).1, Nat.lt_of_lt_of_le (h2 k (k4 k h)).2.1 hf.size, (h2 k (k4 k h)).2.2⟩
      · exact ⟨.inr (Nat.le_trans hD.fr.size h.1), h.2, fun hp => by have := hD.lt k hp; omega⟩
    · exact ⟨(h2 k (k5 k hk)).1, Nat.lt_of_lt_of_le (h2 k (k5 k hk)).2.1 hf.size, (h2 k (k5 k hk)).2.2⟩
  · refine h.own hf (fun k hk => hD.rt k (h2 k (k4 k hk)).1) (fun b hb hk => (h2 _ (k4 _ hk)).2.2 ?_)
    exact hH ▸ List.mem_map.2 ⟨b, hb, rfl⟩
/-- The same, and where the blocks lie. -/
theorem Dt.stepL (hD : Dt r e S0 m ps (A ++ D) w) : ∃ F : FP, SepL A w F ∧ (∀ k, F k → NG ≤ k ∧ k < w.heap.size) ∧ (∀ k, F k → S0 k ∨ e.heap.size ≤ k) ∧ ∀ A' w', Turned A' F w w' → Dt r e S0 m ps (A' ++ D) w' ∧ ∀ H : List Bk, H.map (·.p) = ps → Hp r H w → Hp r H w' := by
  obtain ⟨G, h1, h2⟩ := hD.ex
  obtain ⟨F, Y, k1, k2, k3, k4, k5⟩ := h1.split
  have hF2 : ∀ k, F k → NG ≤ k := fun k hk => (h2 k (k4 k hk)).1.elim (hD.s0 k) (fun h => Nat.le_trans hD.es h)
  refine ⟨F, k1, fun k hk => ⟨hF2 k hk, (h2 k (k4 k hk)).2.1⟩, fun k hk => (h2 k (k4 k hk)).1, fun A' w' ht => ?_⟩
  obtain ⟨hf, F', t1, t2⟩ := ht
  have hY : SepL D w' Y := k2.fr hf (fun k hy hk => k3 k hk hy)
  refine ⟨⟨Fr.trans hD.fr hf (fun k hk hF => ((h2 k (k4 k hF)).1).elim id (fun h => by omega)), hD.tab.fr hf hF2, hD.s0, hD.rt, hD.es, hD.wr, fun p hp => Nat.lt_of_lt_of_le (hD.lt p hp) hf.size, _, t1.append hY (fun k hk hy => ?_), fun k hk => ?_⟩, fun H hH h => ?_⟩
  · rcases t2 k hk with h | h
    · exact k3 k h hy
    · have := (h2 k (k5 k hy)).2.1
      omega
  · rcases hk with hk | hk
    · rcases t2 k hk with h | h
      · exact ⟨(h2 k (k4 k h)).1, Nat.lt_of_lt_of_le (h2 k (k4 k h)).2.1 hf.size, (h2 k (k4 k h)).2.2⟩
      · exact ⟨.inr (Nat.le_trans hD.fr.size h.1), h.2, fun hp => by have := hD.lt k hp; omega⟩
    · exact ⟨(h2 k (k5 k hk)).1, Nat.lt_of_lt_of_le (h2 k (k5 k hk)).2.1 hf.size, (h2 k (k5 k hk)).2.2⟩
  · refine h.own hf (fun k hk => hD.rt k (h2 k (k4 k hk)).1) (fun b hb hk => (h2 _ (k4 _ hk)).2.2 ?_)
    exact hH ▸ List.mem_map.2 ⟨b, hb, rfl⟩
/-- The same, and the datum behind them is read meanwhile. -/
theorem Dt.stepR {d : Dat} (hD : Dt r e S0 m ps (A ++ d :: D) w) : ∃ F G : FP, SepL A w F ∧ d.P w G ∧ (∀ k, G k → ¬ F k) ∧ (∀ k, F k → NG ≤ k ∧ k < w.heap.size) ∧ ∀ A' w', Turned A' F w w' → Dt r e S0 m ps (A' ++ d :: D) w' ∧ ∀ H : List Bk, H.map (·.p) = ps → Hp r H w → Hp r H w' := by
  obtain ⟨G, h1, h2⟩ := hD.ex
  obtain ⟨F, Y, k1, k2, k3, k4, k5⟩ := h1.split
  obtain ⟨X, Z, q1, q2, q3, q4, q5⟩ := k2
  have hF2 : ∀ k, F k → NG ≤ k := fun k hk => (h2 k (k4 k hk)).1.elim (hD.s0 k) (fun h => Nat.le_trans hD.es h)
  refine ⟨F, X, k1, q1, fun k hx hf => k3 k hf (q4 k hx), fun k hk => ⟨hF2 k hk, (h2 k (k4 k hk)).2.1⟩, fun A' w' ht => ?_⟩
  obtain ⟨hf, F', t1, t2⟩ := ht
  have hY : SepL (d :: D) w' Y := SepL.fr (D := d :: D) ⟨X, Z, q1, q2, q3, q4, q5⟩ hf (fun k hy hk => k3 k hk hy)
  refine ⟨⟨Fr.trans hD.fr hf (fun k hk hF => ((h2 k (k4 k hF)).1).elim id (fun h => by omega)), hD.tab.fr hf hF2, hD.s0, hD.rt, hD.es, hD.wr, fun p hp => Nat.lt_of_lt_of_le (hD.lt p hp) hf.size, _, t1.append hY (fun k hk hy => ?_), fun k hk => ?_⟩, fun H hH h => ?_⟩
  · rcases t2 k hk with h | h
    · exact k3 k h hy
    · have := (h2 k (k5 k hy)).2.1
      omega
  · rcases hk with hk | hk
    · rcases t2 k hk with h | h
      · exact ⟨(h2 k (k4 k h)).1, Nat.lt_of_lt_of_le (h2 k (k4 k h)).2.1 hf.size, (h2 k (k4 k h)).2.2⟩
      · exact ⟨.inr (Nat.le_trans hD.fr.size h.1), h.2, fun hp => by have := hD.lt k hp; omega⟩
    · exact ⟨(h2 k (k5 k hk)).1, Nat.lt_of_lt_of_le (h2 k (k5 k hk)).2.1 hf.size, (h2 k (k5 k hk)).2.2⟩
  · refine h.own hf (fun k hk => hD.rt k (h2 k (k4 k hk)).1) (fun b hb hk => (h2 _ (k4 _ hk)).2.2 ?_)
    exact hH ▸ List.mem_map.2 ⟨b, hb, rfl⟩
theorem Dt.made (hD : Dt r e S0 m ps D w) {A' : List Dat} (ht : Made A' w w') : Dt r e S0 m ps (A' ++ D) w' := by
  obtain ⟨F, _, _, h⟩ := Dt.step (A := []) hD
  exact (h A' w' (ht.up (fun _ h => h.elim))).1
/-- What a call leaves. -/
theorem Dt.turned (hD : Dt r e S0 m ps D w) : Turned D S0 e w := by
  obtain ⟨G, h1, h2⟩ := hD.ex
  exact ⟨hD.fr, G, h1, fun k hk => (h2 k hk).1.imp id (fun h => ⟨h, (h2 k hk).2.1⟩)⟩
end
/-- A root below all blocks. -/
def bare (w : World) : World := { w with heap := #[] }
theorem Hp.bare (w : World) : Hp (bare w) [] w := ⟨⟨rfl, rfl, rfl, Nat.zero_le _, fun k hk => by simp [Go.Proofs.YtpebpjkhkgakfaaDoor.bare] at hk⟩, by simp, by simp⟩
theorem Hp.bare1 {w : World} {p : Nat} {t : TypeId} {cs : Array Value} (h : Blk w p t cs) : Hp (Go.Proofs.YtpebpjkhkgakfaaDoor.bare w) [⟨p, t, cs⟩] w :=
  ⟨⟨rfl, rfl, rfl, Nat.zero_le _, fun k hk => by simp [Go.Proofs.YtpebpjkhkgakfaaDoor.bare] at hk⟩, fun i j b c hi hj hij => by
    match i, j, hi, hj, hij with
    | 0, 0, _, _, e => exact absurd rfl e
    | 0, j + 1, _, hj, _ => simp at hj
    | i + 1, _, hi, _, _ => simp at hi, fun b hb => by
    rcases List.mem_cons.1 hb with rfl | hb
    · exact ⟨Nat.zero_le _, h⟩
    · cases hb⟩
/-- A walk begins that turns the data A, which lie in F. -/
theorem Dt.begin {w : World} {F : FP} {A : List Dat} (hT : Tab w) (hA : SepL A w F) (hF : ∀ k, F k → NG ≤ k ∧ k < w.heap.size) : Dt (bare w) w F 0 [] A w :=
  ⟨Fr.refl _ _, hT, fun k hk => (hF k hk).1, fun _ _ => Nat.zero_le _, tab_size hT, fun i p h => by simp at h, fun p h => (by cases h), F, hA, fun k hk => ⟨.inl hk, (hF k hk).2, fun h => by cases h⟩⟩
/-- The same with a block that it turns, too. -/
theorem Dt.begin1 {w : World} {F G : FP} {A : List Dat} {p : Nat} (hT : Tab w) (hA : SepL A w G) (hG : ∀ k, G k → F k) (hF : ∀ k, F k → NG ≤ k ∧ k < w.heap.size) (hp : F p) (hpG : ¬ G p) : Dt (bare w) w F 0 [p] A w :=
  ⟨Fr.refl _ _, hT, fun k hk => (hF k hk).1, fun _ _ => Nat.zero_le _, tab_size hT, fun i q h _ => by
    cases i with
    | zero => simp at h; subst h; exact .inl hp
    | succ i => simp at h, fun q h => by
    simp at h
    subst h
    exact (hF _ hp).2, G, hA, fun k hk => ⟨.inl (hG k hk), (hF k (hG k hk)).2, fun h => by simp at h; subst h; exact hpG hk⟩⟩
/-- The same with a block that it reads alone. -/
theorem Dt.read1 {w : World} {p : Nat} (hT : Tab w) (hp : p < w.heap.size) : Dt (bare w) w (fun _ => False) 1 [p] [] w :=
  ⟨Fr.refl _ _, hT, fun k hk => hk.elim, fun _ _ => Nat.zero_le _, tab_size hT, fun i q h hi => by simp at hi, fun q h => by
    simp at h
    subst h
    exact hp, fun _ => False, trivial, fun k hk => hk.elim⟩

/-! ### Steps -/
section
variable {DF : List Deferred} {P : Program} {ops : Array Oper} {Q : Exit → Act → World → Prop} {a : Act} {w : World} {rest : List Oper} {o : Oper} {N k : Nat} {F : List (Nat × Value)}
/-- An operation that makes a block. -/
theorem lNewP (mk : Nat → Value) {t : TypeId} {cs : Array Value} {w0 : World} {H : List Bk} (he : EnvD DF N F a) (hH : Hp w0 H w) (hd : o.dst = some k) (hk : Nat.blt k N = true)
    (hw : Region.wanted o (yielded ops a.tmps) = true) (h : (execOp a.eval o).run P w = .ok (.value (mk w.heap.size)) (w.alloc (.cells cs t)))
    (next : ∀ p w' a', w.heap.size ≤ p → New w w' → Hp w0 (⟨p, t, cs⟩ :: H) w' → EnvD DF N ((k, mk p) :: F) a' → wpList P ops Q rest a' w') : wpList P ops Q (o :: rest) a w :=
  wpList_step fun K hK => by rw [if_pos hw]; exact wp_valw h (hK _ _ (by rw [hd]; exact next _ _ _ (Nat.le_refl _) ((Fr.refl _ _).alloc _) (hH.alloc t cs) (he.put hk _)))
theorem hNewP {md : Region.Mode} {S : World → Prop} {fuel : Nat} {listed : Array Bool} {i : Nat} (mk : Nat → Value) {t : TypeId} {cs : Array Value} {w0 : World} {H : List Bk} (he : EnvD DF N F a) (hH : Hp w0 H w) (hr : Region.ready md ops listed = [i]) (hoi : ops[i]? = some o) (hd : o.dst = some k) (hk : Nat.blt k N = true)
    (hw : Region.wanted o (yielded ops a.tmps) = true) (h : (execOp a.eval o).run P w = .ok (.value (mk w.heap.size)) (w.alloc (.cells cs t)))
    (next : ∀ p w' a', w.heap.size ≤ p → New w w' → Hp w0 (⟨p, t, cs⟩ :: H) w' → EnvD DF N ((k, mk p) :: F) a' → S w' ∧ wpAnyH P md ops Q S fuel (listed.setIfInBounds i true) a' w') : wpAnyH P md ops Q S (fuel + 1) listed a w :=
  allH hr hoi hw (fun _ hK => wp_valw h (by
    have := next w.heap.size _ _ (Nat.le_refl _) ((Fr.refl _ _).alloc _) (hH.alloc t cs) (he.put hk (mk w.heap.size))
    rw [hd]
    exact hK _ _ this.1 this.2))
/-- Two operations may come up: either. -/
def wpOne (P : Program) (md : Region.Mode) (ops : Array Oper) (Q : Exit → Act → World → Prop) (S : World → Prop) (fuel : Nat) (listed : Array Bool) (i : Nat) (a : Act) (w : World) : Prop :=
  wpOp P ops Q i (fun a' w' => S w' ∧ wpAnyH P md ops Q S fuel (listed.setIfInBounds i true) a' w') a w
theorem hTwo {md : Region.Mode} {S : World → Prop} {fuel : Nat} {listed : Array Bool} {i j : Nat} (hr : Region.ready md ops listed = [i, j]) (h1 : wpOne P md ops Q S fuel listed i a w) (h2 : wpOne P md ops Q S fuel listed j a w) : wpAnyH P md ops Q S (fuel + 1) listed a w :=
  wpAnyH_all hr (by simp) (fun q hq => by
    simp only [List.mem_cons, List.not_mem_nil, or_false] at hq
    rcases hq with rfl | rfl
    · exact h1
    · exact h2)
theorem one_of {md : Region.Mode} {S : World → Prop} {fuel : Nat} {listed : Array Bool} {i : Nat} (ho : ops[i]? = some o) (hw : Region.wanted o (yielded ops a.tmps) = true)
    (h : ∀ K : Act → World → Prop, (∀ a' w', S w' → wpAnyH P md ops Q S fuel (listed.setIfInBounds i true) a' w' → K a' w') → Oper.wp P o a w K Q) : wpOne P md ops Q S fuel listed i a w :=
  wpOp_step ho (fun K hK => by rw [if_pos hw]; exact h K (fun a w h1 h2 => hK a w ⟨h1, h2⟩))
theorem oC {md : Region.Mode} {S : World → Prop} {fuel : Nat} {listed : Array Bool} {i : Nat} {f : FuncId} {fn : Func} {c : Code} {l : List Operand} {ats : Array TypeId} {vl : List Value} {R : Ending → World → Prop} (he : EnvD DF N F a) (hoi : ops[i]? = some o) (hd : o.dst = some k) (hk : Nat.blt k N = true)
    (hf : P.funcs[f]? = some fn) (hname : (fn.name == "runtime.NumGoroutine") = false) (hb : fn.body = some c) (ho : o.op = .call { callee := .value (.func f), args := l.toArray, argTypes := ats })
    (hw : Region.wanted o (yielded ops a.tmps) = true) (hv : evL F l = some vl) (hc : Calls P f vl.toArray w R)
    (next : ∀ e w', R e w' → ∃ v, e = .returned v ∧ S w' ∧ ∀ a', EnvD DF N ((k, v) :: F) a' → wpAnyH P md ops Q S fuel (listed.setIfInBounds i true) a' w') : wpOne P md ops Q S fuel listed i a w :=
  one_of hoi hw (fun K hK => wp_callF hf hname hb ho (he.args hv) (hc.mono fun e w' h => let ⟨v, h1, hS, h2⟩ := next e w' h; ⟨v, h1, hK _ _ hS (by rw [hd]; exact h2 _ (he.put hk v))⟩))
theorem oEx {md : Region.Mode} {S : World → Prop} {fuel : Nat} {listed : Array Bool} {i : Nat} {R : Value → World → Prop} (he : EnvD DF N F a) (hoi : ops[i]? = some o) (hd : o.dst = some k) (hk : Nat.blt k N = true) (hw : Region.wanted o (yielded ops a.tmps) = true)
    (hrun : ∃ v' w', (execOp a.eval o).run P w = .ok (.value v') w' ∧ R v' w') (next : ∀ v' w', R v' w' → S w' ∧ ∀ a', EnvD DF N ((k, v') :: F) a' → wpAnyH P md ops Q S fuel (listed.setIfInBounds i true) a' w') : wpOne P md ops Q S fuel listed i a w := by
  obtain ⟨v', w', h1, h2⟩ := hrun
  obtain ⟨h3, h4⟩ := next v' w' h2
  exact one_of hoi hw (fun _ hK => wp_valw h1 (hK _ _ h3 (by rw [hd]; exact h4 _ (he.put hk v'))))
theorem oNewP {md : Region.Mode} {S : World → Prop} {fuel : Nat} {listed : Array Bool} {i : Nat} (mk : Nat → Value) {t : TypeId} {cs : Array Value} {w0 : World} {H : List Bk} (he : EnvD DF N F a) (hH : Hp w0 H w) (hoi : ops[i]? = some o) (hd : o.dst = some k) (hk : Nat.blt k N = true)
    (hw : Region.wanted o (yielded ops a.tmps) = true) (h : (execOp a.eval o).run P w = .ok (.value (mk w.heap.size)) (w.alloc (.cells cs t)))
    (next : ∀ p w' a', w.heap.size ≤ p → New w w' → Hp w0 (⟨p, t, cs⟩ :: H) w' → EnvD DF N ((k, mk p) :: F) a' → S w' ∧ wpAnyH P md ops Q S fuel (listed.setIfInBounds i true) a' w') : wpOne P md ops Q S fuel listed i a w :=
  one_of hoi hw (fun _ hK => wp_valw h (by
    have := next w.heap.size _ _ (Nat.le_refl _) ((Fr.refl _ _).alloc _) (hH.alloc t cs) (he.put hk (mk w.heap.size))
    rw [hd]
    exact hK _ _ this.1 this.2))
/-- Two operations that may come up in either order: what is known behind both is I. -/
theorem hPair {md : Region.Mode} {S : World → Prop} {fuel : Nat} {listed : Array Bool} {i j : Nat} (I : Act → World → Prop) (hij : i ≠ j) (hr : Region.ready md ops listed = [i, j]) (hr1 : Region.ready md ops (listed.setIfInBounds i true) = [j]) (hr2 : Region.ready md ops (listed.setIfInBounds j true) = [i])
    (h1 : wpOp P ops Q i (fun a' w' => S w' ∧ wpOp P ops Q j (fun a'' w'' => S w'' ∧ I a'' w'') a' w') a w) (h2 : wpOp P ops Q j (fun a' w' => S w' ∧ wpOp P ops Q i (fun a'' w'' => S w'' ∧ I a'' w'') a' w') a w)
    (next : ∀ a w, I a w → wpAnyH P md ops Q S fuel ((listed.setIfInBounds i true).setIfInBounds j true) a w) : wpAnyH P md ops Q S (fuel + 2) listed a w := by
  refine wpAnyH_all hr (by simp) (fun q hq => ?_)
  simp only [List.mem_cons, List.not_mem_nil, or_false] at hq
  rcases hq with rfl | rfl
  · refine wpOp_mono (fun a' w' h => ⟨h.1, ?_⟩) h1
    refine wpAnyH_all hr1 (by simp) (fun q hq => ?_)
    obtain rfl : q = j := by simpa using hq
    exact wpOp_mono (fun a'' w'' h => ⟨h.1, next _ _ h.2⟩) h.2
  · refine wpOp_mono (fun a' w' h => ⟨h.1, ?_⟩) h2
    refine wpAnyH_all hr2 (by simp) (fun r hr' => ?_)
    obtain rfl : r = i := by simpa using hr'
    refine wpOp_mono (fun a'' w'' h => ⟨h.1, ?_⟩) h.2
    rw [Array.setIfInBounds_comm _ _ (Ne.symm hij)]
    exact next _ _ h.2
theorem kStep {i : Nat} {K : Act → World → Prop} (ho : ops[i]? = some o) (hw : Region.wanted o (yielded ops a.tmps) = true) (h : ∀ K' : Act → World → Prop, (∀ a' w', K a' w' → K' a' w') → Oper.wp P o a w K' Q) : wpOp P ops Q i K a w :=
  wpOp_step ho (fun K' hK => by rw [if_pos hw]; exact h K' (fun a w h => hK a w h))
theorem kC {i : Nat} {K : Act → World → Prop} {f : FuncId} {fn : Func} {c : Code} {l : List Operand} {ats : Array TypeId} {vl : List Value} {R : Ending → World → Prop} (he : EnvD DF N F a) (hoi : ops[i]? = some o) (hd : o.dst = some k) (hk : Nat.blt k N = true)
    (hf : P.funcs[f]? = some fn) (hname : (fn.name == "runtime.NumGoroutine") = false) (hb : fn.body = some c) (ho : o.op = .call { callee := .value (.func f), args := l.toArray, argTypes := ats })
    (hw : Region.wanted o (yielded ops a.tmps) = true) (hv : evL F l = some vl) (hc : Calls P f vl.toArray w R)
    (next : ∀ e w', R e w' → ∃ v, e = .returned v ∧ ∀ a', EnvD DF N ((k, v) :: F) a' → K a' w') : wpOp P ops Q i K a w :=
  kStep hoi hw (fun K' hK => wp_callF hf hname hb ho (he.args hv) (hc.mono fun e w' h => let ⟨v, h1, h2⟩ := next e w' h; ⟨v, h1, hK _ _ (by rw [hd]; exact h2 _ (he.put hk v))⟩))
theorem kEx {i : Nat} {K : Act → World → Prop} {R : Value → World → Prop} (he : EnvD DF N F a) (hoi : ops[i]? = some o) (hd : o.dst = some k) (hk : Nat.blt k N = true) (hw : Region.wanted o (yielded ops a.tmps) = true)
    (hrun : ∃ v' w', (execOp a.eval o).run P w = .ok (.value v') w' ∧ R v' w') (next : ∀ v' w', R v' w' → ∀ a', EnvD DF N ((k, v') :: F) a' → K a' w') : wpOp P ops Q i K a w := by
  obtain ⟨v', w', h1, h2⟩ := hrun
  exact kStep hoi hw (fun K' hK => wp_valw h1 (hK _ _ (by rw [hd]; exact next v' w' h2 _ (he.put hk v'))))
theorem kNewP {i : Nat} {K : Act → World → Prop} (mk : Nat → Value) {t : TypeId} {cs : Array Value} {w0 : World} {H : List Bk} (he : EnvD DF N F a) (hH : Hp w0 H w) (hoi : ops[i]? = some o) (hd : o.dst = some k) (hk : Nat.blt k N = true)
    (hw : Region.wanted o (yielded ops a.tmps) = true) (h : (execOp a.eval o).run P w = .ok (.value (mk w.heap.size)) (w.alloc (.cells cs t)))
    (next : ∀ p w' a', w.heap.size ≤ p → New w w' → Hp w0 (⟨p, t, cs⟩ :: H) w' → EnvD DF N ((k, mk p) :: F) a' → K a' w') : wpOp P ops Q i K a w :=
  kStep hoi hw (fun K' hK => wp_valw h (hK _ _ (by rw [hd]; exact next w.heap.size _ _ (Nat.le_refl _) ((Fr.refl _ _).alloc _) (hH.alloc t cs) (he.put hk (mk w.heap.size)))))
/-- An operation without a slot. -/
theorem lEx0 {R : Value → World → Prop} (he : EnvD DF N F a) (hd : o.dst = none) (hw : Region.wanted o (yielded ops a.tmps) = true)
    (hrun : ∃ v' w', (execOp a.eval o).run P w = .ok (.value v') w' ∧ R v' w') (next : ∀ v' w', R v' w' → ∀ a', EnvD DF N F a' → wpList P ops Q rest a' w') : wpList P ops Q (o :: rest) a w := by
  obtain ⟨v', w', h1, h2⟩ := hrun
  exact wpList_step fun K hK => by rw [if_pos hw]; exact wp_valw h1 (hK _ _ (by rw [hd]; exact next _ _ h2 _ (he.put0 _)))
end
theorem then_exit {K : Act → World → Prop} {Q : Exit → Act → World → Prop} {a : Act} {w : World} {id : Nat} (h : Q (.exit id) a w) : Exit.then K Q (.exit id) a w := h
theorem block_exit {Q : Exit → Act → World → Prop} {a : Act} {w : World} {id : Nat} (h : Q .normal a w) : Exit.inBlock id Q (.exit id) a w := by
  unfold Exit.inBlock
  simpa using h
theorem block_pass {Q : Exit → Act → World → Prop} {a : Act} {w : World} {id j : Nat} (hne : (j == id) = false) (h : Q (.exit j) a w) : Exit.inBlock id Q (.exit j) a w := by
  unfold Exit.inBlock
  have : j ≠ id := by simpa using hne
  simpa [this] using h
theorem round_one {P : Program} {Q : Exit → Act → World → Prop} {a : Act} {w : World} {c : Code} {n : Nat} (h : c.wp P (Exit.then (Code.rounds P c Q n) Q) a w) : Code.rounds P c Q (n + 1) a w := h
section
variable {a : Act} {w : World} {N : Nat} {F : List (Nat × Value)}
theorem ret_rr {fn : Func} {p u : Tmp} {ty t t2 : TypeId} {d : TypeDesc} {g g2 : Nat} {cs cs2 : Array Value} {R : Ending → World → Prop} (hf : fn.results = #[.cell p ty, .cell u ty]) (he : Env N F a) (hp : lk F p = some (.pointer (some ⟨g, 0, none⟩))) (hq : lk F u = some (.pointer (some ⟨g2, 0, none⟩))) (hg : Blk w g t cs) (hg2 : Blk w g2 t2 cs2) (hu : Tryd.prog.underlying ty = some d) (hd : d.isRow = true) (hi : (Tryd.prog.info? ty).map (·.size) = some cs.size) (hi2 : (Tryd.prog.info? ty).map (·.size) = some cs2.size)
    (hR : R (.returned (.tuple #[.agg cs, .agg cs2])) w) : bodyPost Tryd.prog fn R .ret a w := by
  refine bodyPost_ret ?_ he.df hR
  have e1 : a.tmps.getD p undef = .pointer (some ⟨g, 0, none⟩) := he.ev _ _ hp
  have e2 : a.tmps.getD u undef = .pointer (some ⟨g2, 0, none⟩) := he.ev _ _ hq
  have l1 := run_loadVar_row (P := Tryd.prog) w g t ty cs (0, 0) _ hg hu (by cases d <;> first | rfl | cases hd) hi
  have l2 := run_loadVar_row (P := Tryd.prog) w g2 t2 ty cs2 (0, 0) _ hg2 hu (by cases d <;> first | rfl | cases hd) hi2
  rw [Array.getD_eq_getD_getElem?] at e1 e2
  simp [results, hf, e1, e2, asAddr, l1, l2, Sem.run_bind, Result.andThen]
end
/-- The operations from number k on wait for all before; the others wait for earlier ones alone. -/
def tailB (md : Region.Mode) (ops : Array Oper) (k : Nat) : Bool := (List.range ops.size).all fun j => match ops[j]? with
  | none => true
  | some o => if j < k then (o.after.all fun e => !Region.binds md e || Nat.blt e.on j) && (match o.guard with | none => true | some g => Nat.blt g.1 k) else (List.range k).all fun i => o.after.any fun e => Region.binds md e && Nat.beq e.on i
def headOps (ops : Array Oper) (k : Nat) : Array Oper := (ops.toList.take k).toArray
def headQ (Q : Exit → Act → World → Prop) (T : Act → World → Prop) : Exit → Act → World → Prop
  | .normal => T
  | e => Q e
section
variable {P : Program} {md : Region.Mode} {ops : Array Oper} {Q : Exit → Act → World → Prop} {T : Act → World → Prop} {S : World → Prop} {k : Nat}
theorem opwp_head {o : Oper} {a : Act} {w : World} {K : Act → World → Prop} (h : o.wp P a w K (headQ Q T)) : o.wp P a w K Q := by
  unfold Oper.wp at *
  generalize (execOp a.eval o).run P w = r at *
  cases r with
  | ok n w' =>
    cases n <;> simp only [Oper.upon] at h ⊢ <;>
      first
        | exact h
        | exact Calls.mono h (fun e w'' he => by cases e <;> exact he)
  | halt x w' => cases x <;> simp only [Oper.upon] at h ⊢ <;> exact h
theorem head_at (ops : Array Oper) (k i : Nat) (hi : i < k) : (headOps ops k)[i]? = ops[i]? := by
  simp [headOps, hi]
theorem head_yield (ops : Array Oper) (k i : Nat) (hi : i < k) (t : Array Value) : yielded (headOps ops k) t i = yielded ops t i := by
  unfold yielded
  rw [head_at ops k i hi]
theorem head_wanted {o : Oper} (hg : (match o.guard with | none => true | some g => Nat.blt g.1 k) = true) (t : Array Value) : Region.wanted o (yielded (headOps ops k) t) = Region.wanted o (yielded ops t) := by
  unfold Region.wanted
  cases hgd : o.guard with
  | none => rfl
  | some g =>
    rw [hgd] at hg
    have hk : g.1 < k := by simpa [Nat.blt_eq] using hg
    obtain ⟨j, b⟩ := g
    simp only
    rw [head_yield ops k j hk]
theorem wpOp_head (ht : tailB md ops k = true) {i : Nat} (hi : i < k) {K : Act → World → Prop} {a : Act} {w : World} (h : wpOp P (headOps ops k) (headQ Q T) i K a w) : wpOp P ops Q i K a w := by
  unfold wpOp at h ⊢
  rw [head_at ops k i hi] at h
  cases ho : ops[i]? with
  | none => rw [ho] at h; exact h
  | some o =>
    rw [ho] at h
    simp only at h ⊢
    have hn : i < ops.size := (Array.getElem?_eq_some_iff.1 ho).1
    have ht1 := List.all_eq_true.1 ht i (List.mem_range.2 hn)
    rw [ho] at ht1
    simp only [if_pos hi, Bool.and_eq_true] at ht1
    rw [head_wanted ht1.2] at h
    split
    · rename_i hw
      rw [if_pos hw] at h
      exact h.imp opwp_head id
    · rename_i hw
      rw [if_neg hw] at h
      exact h
theorem wpAny_more {f : Nat} {L : Array Bool} {a : Act} {w : World} (h : wpAny P md ops Q f L a w) : wpAny P md ops Q (f + 1) L a w := by
  induction f generalizing L a w with
  | zero => exact ⟨fun _ => h.2, by rw [h.1]; simp⟩
  | succ f ih => exact ⟨h.1, fun i hi => wpOp_mono (fun a' w' h' => ih h') (h.2 i hi)⟩
theorem wpAny_plus {f : Nat} {L : Array Bool} {a : Act} {w : World} (g : Nat) (h : wpAny P md ops Q f L a w) : wpAny P md ops Q (g + f) L a w := by
  induction g with
  | zero => rw [Nat.zero_add]; exact h
  | succ g ih => rw [show g + 1 + f = (g + f) + 1 by omega]; exact wpAny_more ih

theorem ready_iff (md : Region.Mode) (ops : Array Oper) (L : Array Bool) (i : Nat) : i ∈ Region.ready md ops L ↔ i < ops.size ∧ L.getD i true = false ∧ ∃ o, ops[i]? = some o ∧ ∀ e ∈ o.after.toList, Region.binds md e = true → L.getD e.on false = true := by
  unfold Region.ready
  rw [List.mem_filter, List.mem_range]
  constructor
  · rintro ⟨h1, h2⟩
    simp only [Bool.and_eq_true, Bool.not_eq_true'] at h2
    refine ⟨h1, h2.1, ops[i], Array.getElem?_eq_getElem h1, fun e he hb => ?_⟩
    have h3 := h2.2
    rw [Array.getElem?_eq_getElem h1, Option.map_some, Option.getD_some, ← Array.all_toList, List.all_eq_true] at h3
    have := h3 e he
    rw [hb] at this
    simpa using this
  · rintro ⟨h1, h2, o, h3, h4⟩
    refine ⟨h1, ?_⟩
    simp only [Bool.and_eq_true, Bool.not_eq_true']
    refine ⟨h2, ?_⟩
    rw [h3, Option.map_some, Option.getD_some, ← Array.all_toList, List.all_eq_true]
    intro e he
    cases hb : Region.binds md e with
    | false => rfl
    | true => rw [h4 e he hb]; rfl
theorem getD_left (l0 : Array Bool) (m i : Nat) (d : Bool) (hi : i < l0.size) : (l0 ++ Array.replicate m false).getD i d = l0.getD i d := by
  simp [Array.getD_eq_getD_getElem?, Array.getElem?_append_left hi]
theorem getD_sw (l : Array Bool) (i : Nat) (hi : i < l.size) (d e : Bool) : l.getD i d = l.getD i e := by
  simp [Array.getD_eq_getD_getElem?, Array.getElem?_eq_getElem hi]
theorem set_left (l0 : Array Bool) (m i : Nat) (hi : i < l0.size) : (l0 ++ Array.replicate m false).setIfInBounds i true = l0.setIfInBounds i true ++ Array.replicate m false := by
  apply Array.ext'
  simp [hi]
theorem tail_edges (ht : tailB md ops k = true) {i : Nat} {o : Oper} (ho : ops[i]? = some o) (hi : i < k) : ∀ e ∈ o.after.toList, Region.binds md e = true → e.on < i := by
  have hn : i < ops.size := (Array.getElem?_eq_some_iff.1 ho).1
  have ht1 := List.all_eq_true.1 ht i (List.mem_range.2 hn)
  rw [ho] at ht1
  simp only [if_pos hi, Bool.and_eq_true] at ht1
  have h := ht1.1
  rw [← Array.all_toList, List.all_eq_true] at h
  intro e he hb
  have := h e he
  rw [hb] at this
  simpa [Nat.blt_eq] using this
theorem tail_waits (ht : tailB md ops k = true) {i : Nat} {o : Oper} (ho : ops[i]? = some o) (hi : ¬ i < k) (q : Nat) (hq : q < k) : ∃ e ∈ o.after.toList, Region.binds md e = true ∧ e.on = q := by
  have hn : i < ops.size := (Array.getElem?_eq_some_iff.1 ho).1
  have ht1 := List.all_eq_true.1 ht i (List.mem_range.2 hn)
  rw [ho] at ht1
  simp only [if_neg hi] at ht1
  have h := List.all_eq_true.1 ht1 q (List.mem_range.2 hq)
  rw [← Array.any_toList, List.any_eq_true] at h
  obtain ⟨e, he, h2⟩ := h
  simp only [Bool.and_eq_true] at h2
  exact ⟨e, he, h2.1, Nat.eq_of_beq_eq_true h2.2⟩
theorem wpAny_head (hk : k ≤ ops.size) (ht : tailB md ops k = true) (hT : ∀ a w, T a w → wpAny P md ops Q (ops.size - k) (Array.replicate k true ++ Array.replicate (ops.size - k) false) a w) :
    ∀ (f : Nat) (l0 : Array Bool) (a : Act) (w : World), l0.size = k → wpAnyH P md (headOps ops k) (headQ Q T) S f l0 a w → wpAny P md ops Q (f + (ops.size - k)) (l0 ++ Array.replicate (ops.size - k) false) a w := by
  have hsz : (headOps ops k).size = k := by simp [headOps]; omega
  have full : ∀ (f : Nat) (l0 : Array Bool) (a : Act) (w : World), l0.size = k → (∀ q, q < k → l0.getD q true = true) → wpAnyH P md (headOps ops k) (headQ Q T) S f l0 a w → wpAny P md ops Q (f + (ops.size - k)) (l0 ++ Array.replicate (ops.size - k) false) a w := by
    intro f l0 a w hl hall h
    have e : l0 = Array.replicate k true := by
      apply Array.ext
      · simp [hl]
      · intro i h1 h2
        have := hall i (by omega)
        rw [Array.getD_eq_getD_getElem?, Array.getElem?_eq_getElem h1] at this
        simpa using this
    have hr : Region.ready md (headOps ops k) l0 = [] := by
      apply List.eq_nil_iff_forall_not_mem.2
      intro i hi
      obtain ⟨h1, h2, _⟩ := (ready_iff _ _ _ _).1 hi
      rw [hall i (by omega)] at h2
      cases h2
    have hTn : T a w := by
      cases f with
      | zero => exact h.2
      | succ f => exact h.1 hr
    subst e
    exact wpAny_plus f (hT a w hTn)
  intro f
  induction f with
  | zero =>
    intro l0 a w hl h
    refine full 0 l0 a w hl (fun q hq => ?_) h
    -- the least that is not listed would be ready
    cases hb : l0.getD q true with
    | true => rfl
    | false =>
      obtain ⟨m, ⟨hm1, hm2⟩, hmin⟩ := least (fun q => q < k ∧ l0.getD q true = false) q ⟨hq, hb⟩
      exfalso
      have hmem : m ∈ Region.ready md (headOps ops k) l0 := by
        have hmn : m < ops.size := by omega
        refine (ready_iff _ _ _ _).2 ⟨by omega, hm2, ops[m], by rw [head_at ops k m hm1, Array.getElem?_eq_getElem hmn], fun e he hbi => ?_⟩
        have hlt := tail_edges ht (Array.getElem?_eq_getElem hmn) hm1 e he hbi
        cases hc : l0.getD e.on true with
        | true => rw [getD_sw l0 e.on (by omega) false true]; exact hc
        | false => have := hmin e.on ⟨by omega, hc⟩; omega
      rw [h.1] at hmem
      cases hmem
  | succ f ih =>
    intro l0 a w hl h
    by_cases hall : ∀ q, q < k → l0.getD q true = true
    · exact full (f + 1) l0 a w hl hall h
    · have hex : ∃ q, q < k ∧ l0.getD q true = false := by
        apply Classical.byContradiction
        intro hne
        exact hall (fun q hq => by
          cases hb : l0.getD q true with
          | true => rfl
          | false => exact absurd ⟨q, hq, hb⟩ hne)
      obtain ⟨q, hq1, hq2⟩ := hex
      obtain ⟨m, ⟨hm1, hm2⟩, hmin⟩ := least (fun q => q < k ∧ l0.getD q true = false) q ⟨hq1, hq2⟩
      have hmn : m < ops.size := by omega
      rw [show f + 1 + (ops.size - k) = (f + (ops.size - k)) + 1 by omega]
      refine ⟨fun h0 => ?_, fun i hi => ?_⟩
      · exfalso
        have hmem : m ∈ Region.ready md ops (l0 ++ Array.replicate (ops.size - k) false) := by
          refine (ready_iff _ _ _ _).2 ⟨hmn, by rw [getD_left _ _ _ _ (by omega)]; exact hm2, ops[m], Array.getElem?_eq_getElem hmn, fun e he hbi => ?_⟩
          have hlt := tail_edges ht (Array.getElem?_eq_getElem hmn) hm1 e he hbi
          rw [getD_left _ _ _ _ (by omega)]
          cases hc : l0.getD e.on true with
          | true => rw [getD_sw l0 e.on (by omega) false true]; exact hc
          | false => have := hmin e.on ⟨by omega, hc⟩; omega
        rw [h0] at hmem
        cases hmem
      · obtain ⟨h1, h2, o, h3, h4⟩ := (ready_iff _ _ _ _).1 hi
        by_cases hik : i < k
        · have hmem : i ∈ Region.ready md (headOps ops k) l0 := by
            rw [getD_left _ _ _ _ (by omega)] at h2
            refine (ready_iff _ _ _ _).2 ⟨by omega, h2, o, by rw [head_at ops k i hik]; exact h3, fun e he hbi => ?_⟩
            have hlt := tail_edges ht h3 hik e he hbi
            have := h4 e he hbi
            rwa [getD_left _ _ _ _ (by omega)] at this
          refine wpOp_mono (fun a' w' h' => ?_) (wpOp_head ht hik (h.2 i hmem))
          rw [set_left _ _ _ (by omega)]
          exact ih _ a' w' (by simpa using hl) h'.2
        · exfalso
          obtain ⟨e, he, hbi, heq⟩ := tail_waits ht h3 hik q hq1
          have := h4 e he hbi
          rw [heq, getD_left _ _ _ _ (by omega), getD_sw l0 q (by omega) false true, hq2] at this
          cases this
end
/-- A region whose operations from number k on wait for all others: S is held up to them. -/
theorem wp_region_split {P : Program} {Q : Exit → Act → World → Prop} {a : Act} {w : World} {id : Nat} {ops : Array Oper} {S : World → Prop} (k : Nat) (T : Act → World → Prop) (hm : P.follows .mixedOrders = true) (hk : Nat.ble k ops.size = true) (ht : tailB .any ops k = true)
    (h : wpAnyH P .any (headOps ops k) (headQ Q T) S k (Array.replicate k false) a w.drew) (hT : ∀ a w, T a w → wpAny P .any ops Q (ops.size - k) (Array.replicate k true ++ Array.replicate (ops.size - k) false) a w) : (Code.region id ops true).wp P Q a w := by
  have hk := Nat.le_of_ble_eq_true hk
  refine wp_region_any hm ?_
  have := wpAny_head hk ht hT k (Array.replicate k false) a w.drew (by simp) h
  rw [show k + (ops.size - k) = ops.size by omega] at this
  have e : Array.replicate k false ++ Array.replicate (ops.size - k) false = Array.replicate ops.size false := by
    apply Array.ext'
    simp only [Array.toList_append, Array.toList_replicate, List.replicate_append_replicate]
    congr 1
    omega
  rw [e] at this
  exact this
theorem wp_region_split1 {P : Program} {Q : Exit → Act → World → Prop} {a : Act} {w : World} {id : Nat} {ops : Array Oper} {S : World → Prop} (k m : Nat) (hm : P.follows .mixedOrders = true) (hkm : Nat.beq (k + m) ops.size = true) (ht : tailB .any ops k = true)
    (h : wpAnyH P .any (headOps ops k) (headQ Q (fun a w => wpAny P .any ops Q m (Array.replicate k true ++ Array.replicate m false) a w)) S k (Array.replicate k false) a w.drew) : (Code.region id ops true).wp P Q a w := by
  have e := Nat.eq_of_beq_eq_true hkm
  refine wp_region_split k _ hm (by rw [Nat.ble_eq]; omega) ht h (fun a w h => ?_)
  have e2 : ops.size - k = m := by omega
  rw [e2]
  exact h
theorem head_done {P : Program} {Q : Exit → Act → World → Prop} {a : Act} {w : World} {md : Region.Mode} {ops : Array Oper} {m : Nat} {L : Array Bool} (h : wpAnyH P md ops Q (fun _ => True) m L a w) : headQ Q (fun a w => wpAny P md ops Q m L a w) .normal a w := wpAny_of_held _ _ _ _ h
theorem EnvD.add {DF : List Deferred} {N : Nat} {F : List (Nat × Value)} {a : Act} (he : EnvD DF N F a) {k : Nat} {v : Value} (h : a.eval (.tmp k) = v) : EnvD DF N ((k, v) :: F) a := by
  refine ⟨he.sz, he.df, fun j u hj => ?_⟩
  unfold lk at hj
  cases hb : Nat.beq k j with
  | true =>
    rw [hb] at hj
    simp only [cond_true, Option.some.injEq] at hj
    obtain rfl := Nat.eq_of_beq_eq_true hb
    rw [h, hj]
  | false =>
    rw [hb] at hj
    exact he.ev j u hj
section
variable {P : Program} {ops : Array Oper} {Q : Exit → Act → World → Prop} {S : World → Prop} {md : Region.Mode} {N k : Nat} {F : List (Nat × Value)} {I : Nat → Value → World → Prop} {o : Oper} {l : List Oper}
theorem StepsAll.cons (h : StepOk P md ops Q N F S I k o) (t : StepsAll P md ops Q N F S I (k + 1) l) : StepsAll P md ops Q N F S I k (o :: l) := ⟨h, t⟩
theorem StepsAll.nil : StepsAll P md ops Q N F S I k [] := trivial
end
/-- What is known of a slot, whatever the order: its value, or a slice whose block is known. -/
inductive Kk where
  | val (v : Value)
  | row (q : Nat) (t : TypeId) (cs : Array Value)
def Kk.holds : Kk → Value → World → Prop
  | .val u, v, _ => v = u
  | .row q t cs, v, w => ∃ p, v = .slice (some ⟨p, 0, none⟩) q q ∧ Blk w p t cs
def HoldsK (Is : List Kk) (k : Nat) (v : Value) (w : World) : Prop := match Is[k]? with
  | some d => d.holds v w
  | none => True
theorem HoldsK.new {Is : List Kk} (k : Nat) (v : Value) (w w' : World) (h : HoldsK Is k v w) (hn : New w w') : HoldsK Is k v w' := by
  unfold HoldsK at *
  cases hd : Is[k]? with
  | none => trivial
  | some d =>
    rw [hd] at h
    cases d with
    | val u => exact h
    | row q t cs => obtain ⟨p, h1, h2⟩ := h; exact ⟨p, h1, h2.fr hn (fun h => h)⟩
end Go.Proofs.YtpebpjkhkgakfaaDoor
