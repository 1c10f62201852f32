/-
  The steps of a region that draws its order, taken one after the other by hand (no number of the translation stands here).
-/
import Derived.Test.YtjcpdldaimebbaaDoorBase
import Derived.Deep.RegionHeld
import Derived.Deep.CutRange
import Derived.OrdersHeld
import Derived.BigCall
import Derived.Conc.MuLone
namespace Go.Proofs.YtjcpdldaimebbaaDoor
open Go.RowKit

section
variable {P : Program} {md : Region.Mode} {ops : Array Oper} {Q : Exit → Act → World → Prop} {a : Act} {w : World} {S : World → Prop} {fuel : Nat} {listed : Array Bool}

theorem ev_same {k : Nat} (h : k < a.tmps.size) (v : Value) : (a.put (some k) v).eval (.tmp k) = v := by
  simp [Act.put, Act.eval, Array.getD, h]
theorem ev_ne {k j : Nat} (h : k ≠ j) (v : Value) : (a.put (some j) v).eval (.tmp k) = a.eval (.tmp k) := by
  simp only [Act.put, Act.eval, Array.getD_eq_getD_getElem?]
  rw [Array.getElem?_setIfInBounds_ne (Ne.symm h)]
theorem sz_put (j : Nat) (v : Value) : (a.put (some j) v).tmps.size = a.tmps.size := by
  simp [Act.put]
theorem ev_const (v : Value) : a.eval (.const v) = v := rfl
theorem abs_act {c : Code} (h : ∀ a', a' = a → c.wp P Q a' w) : c.wp P Q a w := h a rfl

theorem wanted_plain {o : Oper} (h : o.guard = none) (y : Nat → Option Bool) : Region.wanted o y = true := by simp [Region.wanted, h]
theorem yielded_bool {j k : Nat} {b : Bool} {oj : Oper} (hj : ops[j]? = some oj) (hd : oj.dst = some k) (hk : k < a.tmps.size) (hv : a.eval (.tmp k) = .bool b) : yielded ops a.tmps j = some b := by
  have h1 : a.tmps[k]? = some (.bool b) := by
    rw [Array.getElem?_eq_getElem hk]
    simp only [Act.eval, Array.getD, hk, dif_pos] at hv
    exact congrArg some hv
  simp [yielded, hj, hd, h1]
theorem wanted_guard {o : Oper} {j k : Nat} {b : Bool} {oj : Oper} (h : o.guard = some (j, b)) (hj : ops[j]? = some oj) (hd : oj.dst = some k) (hk : k < a.tmps.size) (hv : a.eval (.tmp k) = .bool b) : Region.wanted o (yielded ops a.tmps) = true := by
  simp [Region.wanted, h, yielded_bool hj hd hk hv]
theorem unwanted_guard {o : Oper} {j k : Nat} {b c : Bool} {oj : Oper} (h : o.guard = some (j, b)) (hj : ops[j]? = some oj) (hd : oj.dst = some k) (hk : k < a.tmps.size) (hv : a.eval (.tmp k) = .bool c) (hbc : c ≠ b) : Region.wanted o (yielded ops a.tmps) = false := by
  simp [Region.wanted, h, yielded_bool hj hd hk hv, hbc]

theorem wp_val {o : Oper} {v : Value} {K : Act → World → Prop} (h : (execOp a.eval o).run P w = .ok (.value v) w) (hk : K (a.put o.dst v) w) : Oper.wp P o a w K Q := by
  unfold Oper.wp
  rw [h]
  exact hk
theorem wp_callF {o : Oper} {f : FuncId} {xs : Array Operand} {ats : Array TypeId} {fn : Func} {c : Code} {K : Act → World → Prop} (hf : P.funcs[f]? = some fn) (hname : (fn.name == "runtime.NumGoroutine") = false) (hb : fn.body = some c)
    (ho : o.op = .call { callee := .value (.func f), args := xs, argTypes := ats }) {vs : Array Value} (hv : xs.map a.eval = vs)
    (hc : Calls P f vs w fun e w' => ∃ v, e = .returned v ∧ K (a.put o.dst v) w') : Oper.wp P o a w K Q := by
  obtain ⟨dst, op, ty, pos, after, guard⟩ := o
  simp only at ho
  subst ho
  unfold Oper.wp
  rw [execOp_call_go, MuLone.run_callFunc_enter hf hname hb, hv]
  have e : (#[] ++ vs ++ #[] : Array Value) = vs := by simp
  rw [e]
  refine Calls.mono hc ?_
  rintro e w' ⟨v, rfl, h⟩
  exact h

theorem allA {i : Nat} {o : Oper} (hr : Region.ready md ops listed = [i]) (ho : ops[i]? = some o) (hw : Region.wanted o (yielded ops a.tmps) = true)
    (h : ∀ K : Act → World → Prop, (∀ a' w', wpAny P md ops Q fuel (listed.setIfInBounds i true) a' w' → K a' w') → Oper.wp P o a w K Q) : wpAny P md ops Q (fuel + 1) listed a w :=
  wpAny_ready hr (by simp) (AllReady.cons ho (fun K hK => by rw [if_pos hw]; exact h K hK) AllReady.nil)
theorem allH {i : Nat} {o : Oper} (hr : Region.ready md ops listed = [i]) (ho : ops[i]? = some o) (hw : Region.wanted o (yielded ops a.tmps) = true)
    (h : ∀ K : Act → World → Prop, (∀ a' w', S w' → wpAnyH P md ops Q S fuel (listed.setIfInBounds i true) a' w' → K a' w') → Oper.wp P o a w K Q) : wpAnyH P md ops Q S (fuel + 1) listed a w :=
  wpAnyH_all hr (by simp) (fun j hj => by
    obtain rfl : j = i := by simpa using hj
    exact wpOp_step ho (fun K hK => by rw [if_pos hw]; exact h K (fun a w h1 h2 => hK a w ⟨h1, h2⟩)))
/-- One operation alone may come up, and yields a value in the world at hand: no goal 'Oper.wp' comes up (an elaborator that looks at one runs the operation). -/
theorem allH_val {i : Nat} {o : Oper} {v : Value} (hr : Region.ready md ops listed = [i]) (ho : ops[i]? = some o) (hw : Region.wanted o (yielded ops a.tmps) = true)
    (hrun : (execOp a.eval o).run P w = .ok (.value v) w) (hS : S w) (h : wpAnyH P md ops Q S fuel (listed.setIfInBounds i true) (a.put o.dst v) w) : wpAnyH P md ops Q S (fuel + 1) listed a w :=
  allH hr ho hw (fun _ hK => wp_val hrun (hK _ _ hS h))
end

end Go.Proofs.YtjcpdldaimebbaaDoor
