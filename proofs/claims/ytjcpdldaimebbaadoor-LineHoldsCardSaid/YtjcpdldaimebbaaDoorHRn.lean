/-
  What single operations yield, for walks by hand over cells; append onto a row of cells.
-/
import Derived.Test.YtjcpdldaimebbaaDoorHand
import Derived.Deep.MidRow
namespace Go.Proofs.YtjcpdldaimebbaaDoor
open Go.RowKit

theorem own_slice16 {w : World} {base : Nat} {e : TypeId} {v : Value} {n : Nat} {xs : List Value} (h : w.ownsRow base e 16 v n xs) : ∃ A c, v = .slice A n c ∧ n ≤ c ∧ c ≤ maxLen := by
  rcases h.2 with ⟨rfl, rfl⟩ | ⟨g, cap, cur, rfl, _, _, hc, hm, _⟩
  · exact ⟨none, 0, rfl, Nat.le_refl _, Nat.zero_le _⟩
  · exact ⟨_, cap, rfl, hc, hm⟩
theorem own_rdc {w : World} {base : Nat} {v : Value} {n : Nat} {l : List Ce} (h : w.ownsRow base 60 16 v n (flatC l)) (hl : l.length = n) : ∃ b A c, v = .slice A n c ∧ n ≤ c ∧ RdC w b A n l := by
  obtain ⟨A, c, rfl, hc, _⟩ := own_slice16 h
  rcases A with _ | a
  · exact ⟨0, none, c, rfl, hc, RdC.of_own h hl (fun k hk => by simp [Value.ownBlock] at hk)⟩
  · exact ⟨a.block, _, c, rfl, hc, RdC.of_own h hl (fun k hk => by simpa [Value.ownBlock] using hk.symm)⟩

theorem own_blk {w : World} {base : Nat} {e : TypeId} {sz n : Nat} {v : Value} {xs : List Value} (h : w.ownsRow base e sz v n xs) : ∀ k, v.ownBlock = some k → base ≤ k := by
  intro k hk
  rcases h.2 with ⟨rfl, _⟩ | ⟨g, cap, cur, rfl, hb, _⟩
  · simp [Value.ownBlock] at hk
  · have : g = k := by simpa [Value.ownBlock] using hk
    omega

section
variable {ρ : Operand → Value} {o : Oper} {x y : Operand}
theorem rn_lenC {A : Option Addr} {n c : Nat} (h : o.op = .call { callee := .builtin .len, args := #[x], argTypes := #[22] }) (hv : ρ x = .slice A n c) (w : World) : (execOp ρ o).run Tryd.prog w = .ok (.value (.int .i64 n)) w := by
  obtain ⟨dst, op, ty, pos, after, guard⟩ := o
  simp only at h
  subst h
  go_simp
theorem rn_lenS {s : ByteArray} (h : o.op = .call { callee := .builtin .len, args := #[x], argTypes := #[9] }) (hv : ρ x = .string s) (w : World) : (execOp ρ o).run Tryd.prog w = .ok (.value (.int .i64 s.size)) w := by
  obtain ⟨dst, op, ty, pos, after, guard⟩ := o
  simp only at h
  subst h
  go_simp
theorem rn_gtr {i j : Int} {b : Bool} (h : o.op = .binOp .gtr 3 x y 3) (hx : ρ x = .int .i64 i) (hy : ρ y = .int .i64 j) (hb : decide (j < i) = b) (w : World) : (execOp ρ o).run Tryd.prog w = .ok (.value (.bool b)) w := by
  subst hb
  obtain ⟨dst, op, ty, pos, after, guard⟩ := o
  simp only at h
  subst h
  go_simp
theorem rn_lss {i j : Int} {b : Bool} (h : o.op = .binOp .lss 3 x y 3) (hx : ρ x = .int .i64 i) (hy : ρ y = .int .i64 j) (hb : decide (i < j) = b) (w : World) : (execOp ρ o).run Tryd.prog w = .ok (.value (.bool b)) w := by
  subst hb
  obtain ⟨dst, op, ty, pos, after, guard⟩ := o
  simp only at h
  subst h
  go_simp
theorem rn_leq {i j : Int} {b : Bool} (h : o.op = .binOp .leq 3 x y 3) (hx : ρ x = .int .i64 i) (hy : ρ y = .int .i64 j) (hb : decide (i ≤ j) = b) (w : World) : (execOp ρ o).run Tryd.prog w = .ok (.value (.bool b)) w := by
  subst hb
  obtain ⟨dst, op, ty, pos, after, guard⟩ := o
  simp only at h
  subst h
  go_simp
theorem rn_geq {i j : Int} {b : Bool} (h : o.op = .binOp .geq 3 x y 3) (hx : ρ x = .int .i64 i) (hy : ρ y = .int .i64 j) (hb : decide (j ≤ i) = b) (w : World) : (execOp ρ o).run Tryd.prog w = .ok (.value (.bool b)) w := by
  subst hb
  obtain ⟨dst, op, ty, pos, after, guard⟩ := o
  simp only at h
  subst h
  go_simp
theorem rn_add1 {i j r : Int} (h : o.op = .binOp .add 3 x y 3) (hx : ρ x = .int .i64 i) (hy : ρ y = .int .i64 j) (hr : IntKind.i64.wrap (i + j) = r) (w : World) : (execOp ρ o).run Tryd.prog w = .ok (.value (.int .i64 r)) w := by
  subst hr
  obtain ⟨dst, op, ty, pos, after, guard⟩ := o
  simp only at h
  subst h
  go_simp
theorem rn_neI {i j : Int} {b : Bool} (h : o.op = .binOp .neq 3 x y 3) (hx : ρ x = .int .i64 i) (hy : ρ y = .int .i64 j) (hb : (i != j) = b) (w : World) : (execOp ρ o).run Tryd.prog w = .ok (.value (.bool b)) w := by
  subst hb
  obtain ⟨dst, op, ty, pos, after, guard⟩ := o
  simp only at h
  subst h
  go_simp
theorem rn_eqE {i j : Int} {b : Bool} (h : o.op = .binOp .eql 28 x y 28) (hx : ρ x = .int .i64 i) (hy : ρ y = .int .i64 j) (hb : (i == j) = b) (w : World) : (execOp ρ o).run Tryd.prog w = .ok (.value (.bool b)) w := by
  subst hb
  obtain ⟨dst, op, ty, pos, after, guard⟩ := o
  simp only at h
  subst h
  go_simp
theorem rn_neE {i j : Int} {b : Bool} (h : o.op = .binOp .neq 28 x y 28) (hx : ρ x = .int .i64 i) (hy : ρ y = .int .i64 j) (hb : (i != j) = b) (w : World) : (execOp ρ o).run Tryd.prog w = .ok (.value (.bool b)) w := by
  subst hb
  obtain ⟨dst, op, ty, pos, after, guard⟩ := o
  simp only at h
  subst h
  go_simp
theorem rn_neB {i j b : Bool} (h : o.op = .binOp .neq 4 x y 4) (hx : ρ x = .bool i) (hy : ρ y = .bool j) (hb : (!(i == j)) = b) (w : World) : (execOp ρ o).run Tryd.prog w = .ok (.value (.bool b)) w := by
  subst hb
  obtain ⟨dst, op, ty, pos, after, guard⟩ := o
  simp only at h
  subst h
  go_simp
theorem rn_ext {i : Nat} {vs : Array Value} {v : Value} (h : o.op = .extract x i) (hx : ρ x = .tuple vs) (hv : vs[i]? = some v) (w : World) : (execOp ρ o).run Tryd.prog w = .ok (.value v) w := by
  obtain ⟨dst, op, ty, pos, after, guard⟩ := o
  simp only at h
  subst h
  go_simp
theorem rn_idx {A : Addr} {n c i : Nat} {p : Value} (h : o.op = .indexAddr 22 x y) (hx : ρ x = .slice (some A) n c) (hy : ρ y = .int .i64 i) (hi : i < n) (hp : .pointer (some (A.add (i * 16))) = p) (w : World) : (execOp ρ o).run Tryd.prog w = .ok (.value p) w := by
  subst hp
  obtain ⟨dst, op, ty, pos, after, guard⟩ := o
  simp only at h
  subst h
  go_simp
end

theorem rn_loadM {ρ : Operand → Value} {o : Oper} {x : Operand} {b off o0 i n : Nat} {l : List Ce} {c : Ce} {w : World} (h : o.op = .load 60 x) (hx : ρ x = .pointer (some ⟨b, off, none⟩)) (hr : RdC w b (some ⟨b, o0, none⟩) n l) (hi : i < n) (hoff : off = o0 + i * 16) (hc : l[i]? = some c) :
    (execOp ρ o).run Tryd.prog w = .ok (.value c.v) w := by
  subst hoff
  obtain ⟨o', ho', _, hcell⟩ := hr.2 (by omega)
  obtain rfl : o0 = o' := by simpa using ho'
  have hl : i < l.length := by rw [hr.1]; exact hi
  have hcl : l[i] = c := by rw [List.getElem?_eq_getElem hl] at hc; simpa using hc
  have hR : w.rangeAt b (o0 + i * 16) c.ls := fun j v hv => by
    have hj : j < 16 := by
      have := (List.getElem?_eq_some_iff.1 hv).1
      simpa [Ce.ls] using this
    rw [Nat.add_assoc, hcell (i * 16 + j) (by omega), flatC_at l i j hl hj, hcl]
    exact hv
  have hs : (Tryd.prog.info? 60).map (·.size) = some c.ls.length := infoC16
  unfold execOp
  simp only [h, hx, run_loadAt_mid w b (o0 + i * 16) 60 c.ls _ hR undC rfl hs, Sem.run_bind, Sem.run_pure, Result.andThen_ok]
  rfl
theorem rn_boxP {ρ : Operand → Value} {o : Oper} {x : Operand} {p : Pn} (h : o.op = .box 58 x) (hx : ρ x = p.v) (w : World) : (execOp ρ o).run Tryd.prog w = .ok (.value (.pointer (some ⟨w.heap.size, 0, none⟩))) (w.alloc (.cells p.cs 58)) := by
  unfold execOp
  simp only [h, hx]
  kernel_rfl
theorem rn_boxC {ρ : Operand → Value} {o : Oper} {x : Operand} {c : Ce} (h : o.op = .box 60 x) (hx : ρ x = c.v) (w : World) : (execOp ρ o).run Tryd.prog w = .ok (.value (.pointer (some ⟨w.heap.size, 0, none⟩))) (w.alloc (.cells c.cs 60)) := by
  unfold execOp
  simp only [h, hx]
  kernel_rfl
theorem RdC.low {w0 w' w'' : World} {b n : Nat} {A : Option Addr} {l : List Ce} (h0 : RdC w0 b A n l) (hn : New w0 w') (hf : Fr (fun k => w0.heap.size ≤ k) w' w'') : RdC w'' b A n l := by
  refine ⟨h0.1, fun h => ?_⟩
  obtain ⟨o, rfl, hb, hc⟩ := h0.2 h
  refine ⟨o, rfl, Nat.lt_of_lt_of_le hb (Nat.le_trans hn.size hf.size), fun j hj => ?_⟩
  have hn' := hn.size
  rw [hf.cell (p := ⟨b, o + j, none⟩) (Nat.lt_of_lt_of_le hb hn') (by simp only; omega), hn.cell (p := ⟨b, o + j, none⟩) hb (fun h => h)]
  exact hc j hj
theorem new_low {w0 w1 w' w'' : World} (h1 : New w0 w1) (hn : New w0 w') (hf : Fr (fun k => w1.heap.size ≤ k) w' w'') : New w0 w'' :=
  Fr.trans hn hf (fun i hi h => by have := h1.size; omega)

/-- append of cells onto a row of the call's own, whatever the source is. -/
theorem run_appendC (w : World) (base : Nat) (ty : TypeId) (v : Value) (n : Nat) (l : List Ce) (hown : w.ownsRow base 60 16 v n (flatC l))
    (b : Nat) (A : Option Addr) (m c : Nat) (news : List Ce) (hr : RdC w b A m news) (hnm : n + m ≤ 1000000000) (hbase : base ≤ w.heap.size) :
    ∃ v' w', (Builtin.append_ #[22, 22] ty #[v, .slice A m c]).run Tryd.prog w = .ok v' w' ∧ w'.ownsRow base 60 16 v' (n + m) (flatC (l ++ news)) ∧ w.grownBy w' v.ownBlock := by
  obtain ⟨i, hi, hz, hsize, hby⟩ := info_parts infoC
  have ht := Tryd.underlying22
  rcases Nat.eq_zero_or_pos m with rfl | hm
  · have hn : news = [] := List.eq_nil_of_length_eq_zero hr.1
    subst hn
    rcases A with _ | ad
    · refine ⟨v, w, ?_, by simpa using hown, ⟨rfl, rfl, rfl, Nat.le_refl _, fun _ _ _ => rfl⟩⟩
      rcases hown.2 with ⟨rfl, rfl⟩ | ⟨g, cap, cur, rfl, _, _, hnc, _⟩
      · simp [Builtin.append_, run_underlying ht, sizeOf, typeInfo, hi, Builtin.lenOf, Builtin.firstCells]
      · simp [Builtin.append_, run_underlying ht, sizeOf, typeInfo, hi, Builtin.lenOf, Builtin.firstCells, hnc, storeCells]
    · obtain ⟨v', w', h2, h3, h4, _, h5⟩ := run_append_own_at (P := Tryd.prog) w base 22 ty 60 i _ 16 64 ht hi hz hsize hby rfl (by omega) v n (flatC l) hown ad 0 c [] (by simp) (by simp) (by simp) (by unfold maxLen; omega) (by omega) hbase
      exact ⟨v', w', h2, by simpa using h3, h4⟩
  · obtain ⟨o, rfl, _, hc⟩ := hr.2 hm
    obtain ⟨v', w', h2, h3, h4, _, h5⟩ := run_append_own_at (P := Tryd.prog) w base 22 ty 60 i _ 16 64 ht hi hz hsize hby rfl (by omega) v n (flatC l) hown ⟨b, o, none⟩ m c (flatC news) (by rw [flatC_len, hr.1]) (fun j u hu => by
      have hj : j < m * 16 := by
        have := (List.getElem?_eq_some_iff.1 hu).1
        rw [flatC_len, hr.1] at this
        exact this
      rw [addr_add, hc j hj, hu]) (one_ls news) (by unfold maxLen; omega) (by omega) hbase
    exact ⟨v', w', h2, by rw [flatC_append]; exact h3, h4⟩
section
variable {ops : Array Oper} {Q : Exit → Act → World → Prop} {a : Act} {w : World} {rest : List Oper} {o : Oper} {N k : Nat} {F : List (Nat × Value)}
theorem lApp {s x : Operand} {base b n m c : Nat} {v : Value} {l news : List Ce} {A : Option Addr} (he : Env N F a) (hd : o.dst = some k) (hk : Nat.blt k N = true) (hw : Region.wanted o (yielded ops a.tmps) = true)
    (ho : o.op = .call { callee := .builtin .append, args := #[s, x], argTypes := #[22, 22] }) (hs : evO F s = some v) (hown : w.ownsRow base 60 16 v n (flatC l))
    (hx : evO F x = some (.slice A m c)) (hr : RdC w b A m news) (hnm : n + m ≤ 1000000000) (hbase : base ≤ w.heap.size)
    (next : ∀ v' w' a', w'.ownsRow base 60 16 v' (n + m) (flatC (l ++ news)) → w.grownBy w' v.ownBlock → Env N ((k, v') :: F) a' → wpList Tryd.prog ops Q rest a' w') : wpList Tryd.prog ops Q (o :: rest) a w := by
  obtain ⟨v', w', hrun, h2, h3⟩ := run_appendC w base o.type v n l hown b A m c news hr hnm hbase
  refine wpList_step fun K hK => ?_
  rw [if_pos hw]
  unfold Oper.wp execOp
  simp only [ho, resolve, invoke, builtin, Sem.run_bind, Sem.run_pure, Result.andThen_ok, List.map_toArray, List.map_cons, List.map_nil, he.op hs, he.op hx, hrun]
  exact hK _ _ (by rw [hd]; exact next _ _ _ h2 h3 (he.put hk v'))
end
end Go.Proofs.YtjcpdldaimebbaaDoor
