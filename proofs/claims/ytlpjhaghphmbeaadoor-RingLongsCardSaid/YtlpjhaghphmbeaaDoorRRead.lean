/-
  A ring as a datum: what its small calls say; slices of one and of three lines.
-/
import Derived.Test.YtlpjhaghphmbeaaDoorRLaws
namespace Go.Proofs.YtlpjhaghphmbeaaDoor
open Go.RowKit

section
variable {o : Oper} {x y z : Operand} {ρ : Operand → Value}
theorem rn_bsL3 {A B C : Option Addr} {n c m d n9 c9 : Nat} {s t u : Bool} (h : o.op = .buildSlice 30 3 #[(0, x), (1, y), (2, z)]) (hx : ρ x = .agg #[.slice A n c, .bool s]) (hy : ρ y = .agg #[.slice B m d, .bool t]) (hz : ρ z = .agg #[.slice C n9 c9, .bool u]) (w : World) : (execOp ρ o).run Tryd.prog w = .ok (.value (.slice (some ⟨w.heap.size, 0, none⟩) 3 3)) (w.alloc (.cells #[.slice A n c, .bool s, .slice B m d, .bool t, .slice C n9 c9, .bool u] 36)) := by
  have e : (Instr.buildSlice 30 3 #[(0, .agg #[.slice A n c, .bool s]), (1, .agg #[.slice B m d, .bool t]), (2, .agg #[.slice C n9 c9, .bool u])]).run Tryd.prog w = .ok (.slice (some ⟨w.heap.size, 0, none⟩) 3 3) (w.alloc (.cells #[.slice A n c, .bool s, .slice B m d, .bool t, .slice C n9 c9, .bool u] 36)) := by kernel_rfl
  unfold execOp
  simp only [h, List.map_toArray, List.map_cons, List.map_nil, hx, hy, hz, Sem.run_bind, e, Result.andThen_ok, Sem.run_pure]
end
theorem lns_one {w : World} {q : Nat} {cs : Array Value} {xa : LV} {a : Ln} (hB : Blk w q 36 cs) (hc : cs.toList = flatG rL [xa]) (hs : xa.s = a.2) (ha : SlC w xa.v a.1) : LnsR w (.slice (some ⟨q, 0, none⟩) 1 1) [a] := by
  refine ⟨_, 1, q, [xa], rfl, Nat.le_refl _, rdg_blk hB hc rfl, fun _ => trivial, fun i x l hx hl => ?_⟩
  match i, hx, hl with
  | 0, hx, hl => simp at hx hl; subst hx hl; exact ⟨hs, ha.f⟩
  | i + 1, hx, _ => simp at hx
theorem lns_three {w : World} {q : Nat} {cs : Array Value} {xa xb xc : LV} {a b c : Ln} (hB : Blk w q 36 cs) (hc : cs.toList = flatG rL [xa, xb, xc]) (hs : (xa.s, xb.s, xc.s) = (a.2, b.2, c.2)) (ha : SlC w xa.v a.1) (hb : SlC w xb.v b.1) (hd : SlC w xc.v c.1) : LnsR w (.slice (some ⟨q, 0, none⟩) 3 3) [a, b, c] := by
  simp only [Prod.mk.injEq] at hs
  refine ⟨_, 3, q, [xa, xb, xc], rfl, Nat.le_refl _, rdg_blk hB hc rfl, fun _ => trivial, fun i x l hx hl => ?_⟩
  match i, hx, hl with
  | 0, hx, hl => simp at hx hl; subst hx hl; exact ⟨hs.1, ha.f⟩
  | 1, hx, hl => simp at hx hl; subst hx hl; exact ⟨hs.2.1, hb.f⟩
  | 2, hx, hl => simp at hx hl; subst hx hl; exact ⟨hs.2.2, hd.f⟩
  | i + 3, hx, _ => simp at hx
section
variable {p : Nat} {R : RS} {F : FP} {w : World}
theorem ring_blk (hs : (ringD p R).P w F) : ∃ A c, Blk w p 60 (rgCs (.slice A R.P.length c) R.mo R.pl R.fi R.nx) := by
  obtain ⟨h1, X, h2, h3⟩ := hs
  obtain ⟨A, c, h4⟩ := raw_blk h3
  have e : (X.map (·.q)).length = R.P.length := by rw [← h2]; simp
  rw [e] at h4
  exact ⟨A, c, h4⟩
theorem pl_ne (h : RgOk R) : ((R.pl : Int) == 0) = false := by have := h.pl1; rw [beq_eq_false_iff_ne]; omega
theorem rFirst_d (hs : (ringD p R).P w F) (hT : Tab w) : Calls Tryd.prog 19 #[.pointer (some ⟨p, 0, none⟩)] w fun e w' => e = .returned (.int .i64 (R.fi : Nat)) ∧ New w w' := by
  obtain ⟨A, c, hB⟩ := ring_blk hs
  exact rFirst A _ c p _ _ _ _ w hB (pl_ne hs.1) hT
theorem rNext_d (hs : (ringD p R).P w F) (hT : Tab w) : Calls Tryd.prog 20 #[.pointer (some ⟨p, 0, none⟩)] w fun e w' => e = .returned (.int .i64 (R.nx : Nat)) ∧ New w w' := by
  obtain ⟨A, c, hB⟩ := ring_blk hs
  exact rNext A _ c p _ _ _ _ w hB (pl_ne hs.1) hT
theorem rMost_d (hs : (ringD p R).P w F) (hT : Tab w) : Calls Tryd.prog 29 #[.pointer (some ⟨p, 0, none⟩)] w fun e w' => e = .returned (.int .i64 (R.mo : Nat)) ∧ New w w' := by
  obtain ⟨A, c, hB⟩ := ring_blk hs
  exact rMost A _ c p _ _ _ _ w hB (pl_ne hs.1) hT
theorem rPages_d (hs : (ringD p R).P w F) (hT : Tab w) : Calls Tryd.prog 21 #[.pointer (some ⟨p, 0, none⟩)] w fun e w' => e = .returned (.int .i64 (R.P.length : Nat)) ∧ New w w' := by
  obtain ⟨A, c, hB⟩ := ring_blk hs
  exact rPages A _ c p _ _ _ _ w hB (pl_ne hs.1) hT
theorem rLen_d (hs : (ringD p R).P w F) (hT : Tab w) : Calls Tryd.prog 28 #[.pointer (some ⟨p, 0, none⟩)] w fun e w' => e = .returned (.int .i64 (R.L.length : Nat)) ∧ New w w' := by
  obtain ⟨A, c, hB⟩ := ring_blk hs
  exact rLen A _ c p _ _ _ _ w hB R.L.length (by unfold RS.nx; omega) (by omega) (by have := hs.1.nx; unfold bigN at this; omega) (pl_ne hs.1) hT
theorem rangeE_all (R : RS) : rangeE R R.fi R.nx = 0 := by
  unfold rangeE RS.nx
  rw [if_neg (by omega), if_neg (by omega)]
theorem rangeL_all (R : RS) : rangeL R R.fi R.nx = R.L := by
  unfold rangeL
  rw [if_pos (rangeE_all R), show ((R.nx : Int) - (R.fi : Int)).toNat = R.L.length by unfold RS.nx; omega, show ((R.fi : Int) - (R.fi : Int)).toNat = 0 by omega, List.drop_zero, List.take_length]
end
end Go.Proofs.YtlpjhaghphmbeaaDoor
