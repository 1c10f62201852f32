/-
  Strings ranged over, cut, made of a rune; rows of numbers that grow; a builder's list copied.
-/
import Derived.Test.YtpebpjkhkgakfaaDoorPOps
namespace Go.Proofs.YtpebpjkhkgakfaaDoor
open Go.RowKit

/-- Block q is a string's iterator, at byte i. -/
def It (w : World) (q : Nat) (l : List UInt8) (i : Nat) : Prop := w.heap[q]? = some (.stringIter (bs l) i)
section
variable {w w' : World} {q i : Nat} {l : List UInt8} {S : Nat → Prop}
theorem It.lt (h : It w q l i) : q < w.heap.size := by
  unfold It at h
  rcases Nat.lt_or_ge q w.heap.size with hlt | hge
  · exact hlt
  · rw [Array.getElem?_eq_none hge] at h; cases h
theorem It.fr (h : It w q l i) (hf : Fr S w w') (hn : ¬ S q) : It w' q l i := (hf.block q h.lt hn).trans h
theorem It.new (h : It w q l i) (hf : New w w') : It w' q l i := h.fr hf (fun h => h)
theorem It.ne (h : It w q l i) {p : Nat} {t : TypeId} {cs : Array Value} (hB : Blk w p t cs) : q ≠ p := by
  rintro rfl
  unfold It at h
  unfold Blk at hB
  rw [h] at hB
  cases hB
theorem It.turn (h : It w q l i) {p : Nat} {t : TypeId} {cs : Array Value} (hB : Blk w p t cs) (hf : Fr (fun k => k = p) w w') : It w' q l i := h.fr hf (fun e => h.ne hB e)
theorem fr_iterAt (w : World) (q : Nat) (s : ByteArray) (j : Nat) : Fr (fun k => k = q) w (w.iterAt q s j) :=
  ⟨rfl, rfl, rfl, by rw [Lib.iterAt_size]; exact Nat.le_refl _, fun k _ hn => Lib.iterAt_other w q k s j hn⟩
/-- An iterator that moves on turns no other block. -/
theorem Hp.iter {w0 : World} {H : List Bk} (h : Hp w0 H w) (hi : It w q l i) (hq : w0.heap.size ≤ q) (hf : Fr (fun k => k = q) w w') : Hp w0 H w' :=
  h.own hf (fun _ hk => hk ▸ hq) (fun b hb e => hi.ne (h.bl b hb).2 e.symm)
/-- A block that a call has turned. -/
theorem Hp.turn {w0 : World} {H G : List Bk} (h : Hp w0 H w) (i : Nat) {b : Bk} {cs : Array Value} (hb : H[i]? = some b) (hf : Fr (fun k => k = b.p) w w') (hB : Blk w' b.p b.t cs) (e : H.set i ⟨b.p, b.t, cs⟩ = G) : Hp w0 G w' := e ▸ h.set hb hB hf
/-- A row of the call's own that grew. -/
theorem Hp.grown {w0 : World} {row : Option Nat} (h : Hp w0 [] w) (hg : w.grownBy w' row) (hr : ∀ k, row = some k → w0.heap.size ≤ k) : Hp w0 [] w' :=
  ⟨h.new.grown hg (fun k hk => .inr (hr k hk)), by simp, by simp⟩
end

section
variable {ρ : Operand → Value} {o : Oper} {x y z : Operand} {w : World}
theorem rx_range {l : List UInt8} (h : o.op = .range 9 x) (hx : ρ x = .string (bs l)) :
    ∃ v' w', (execOp ρ o).run Tryd.prog w = .ok (.value v') w' ∧ ∃ q, v' = .pointer (some ⟨q, 0, none⟩) ∧ w.heap.size ≤ q ∧ It w' q l 0 ∧ New w w' := by
  refine ⟨_, w.iter (bs l) 0, ?_, w.heap.size, rfl, Nat.le_refl _, World.iter_heap w _ _, New.alloc _⟩
  have hs := run_range_string (P := Tryd.prog) w 9 (bs l) Tryd.underlying9
  unfold execOp
  simp only [h, hx, Sem.run_bind, hs, Result.andThen_ok, Sem.run_pure]
theorem byte_at {l : List UInt8} {i : Nat} {c : UInt8} (hc : l[i]? = some c) : ∃ h : i < (bs l).size, (bs l)[i]'h = c := by
  obtain ⟨hi, rfl⟩ := List.getElem?_eq_some_iff.1 hc
  exact ⟨by rw [bs_size]; exact hi, rfl⟩
theorem dec_fine {l : List UInt8} {i : Nat} {c : UInt8} (hc : l[i]? = some c) (hf : fine c) : Utf8.decode (bs l) i = (c.toNat, 1) := by
  obtain ⟨h, e⟩ := byte_at hc
  rw [decode_ascii (bs l) i h (by rw [e]; omega), e]
theorem dec_bad {l : List UInt8} {i : Nat} {c : UInt8} (hc : l[i]? = some c) (hf : ¬ fine c) : ¬ fineI ((Utf8.decode (bs l) i).1 : Nat) ∧ ((Utf8.decode (bs l) i).1 : Int) ≤ 2147483647 := by
  obtain ⟨h, e⟩ := byte_at hc
  have hle := decode_le (bs l) i
  refine ⟨fun h2 => ?_, by omega⟩
  rcases Nat.lt_or_ge c.toNat 128 with h3 | h3
  · rw [decode_ascii (bs l) i h (by rw [e]; exact h3), e] at h2
    omega
  · have := (decode_high (bs l) i h (by rw [e]; exact h3)).1
    omega
theorem rn_next0 {q i : Nat} {l : List UInt8} (hI : It w q l i) (h : o.op = .next x true) (hx : ρ x = .pointer (some ⟨q, 0, none⟩)) (hi : ¬ i < l.length) : (execOp ρ o).run Tryd.prog w = .ok (.value (.tuple #[.bool false])) w := by
  have hs := Lib.run_next_end_at (P := Tryd.prog) w q (bs l) i o.type hI (by rw [bs_size]; exact hi)
  unfold execOp
  simp only [h, hx, Sem.run_bind, hs, Result.andThen_ok, Sem.run_pure]
theorem rx_next1 {q i : Nat} {l : List UInt8} {c : UInt8} (hI : It w q l i) (h : o.op = .next x true) (hx : ρ x = .pointer (some ⟨q, 0, none⟩)) (hc : l[i]? = some c) (hf : fine c) :
    ∃ v' w', (execOp ρ o).run Tryd.prog w = .ok (.value v') w' ∧ v' = .tuple #[.bool true, .int .i64 (i : Int), .int .i32 (c.toNat : Int)] ∧ It w' q l (i + 1) ∧ Fr (fun k => k = q) w w' := by
  have hi : i < (bs l).size := (byte_at hc).1
  have hs := Lib.run_next_any_at (P := Tryd.prog) w q (bs l) i o.type hI hi
  rw [dec_fine hc hf] at hs
  refine ⟨_, _, ?_, rfl, Lib.iterAt_heap w q (bs l) i (i + 1) hI, fr_iterAt w q _ _⟩
  unfold execOp
  simp only [h, hx, Sem.run_bind, hs, Result.andThen_ok, Sem.run_pure]
theorem rx_next2 {q i : Nat} {l : List UInt8} {c : UInt8} (hI : It w q l i) (h : o.op = .next x true) (hx : ρ x = .pointer (some ⟨q, 0, none⟩)) (hc : l[i]? = some c) (hf : ¬ fine c) :
    ∃ v' w', (execOp ρ o).run Tryd.prog w = .ok (.value v') w' ∧ ∃ r : Int, v' = .tuple #[.bool true, .int .i64 (i : Int), .int .i32 r] ∧ ¬ fineI r ∧ Fr (fun k => k = q) w w' := by
  have hi : i < (bs l).size := (byte_at hc).1
  have hs := Lib.run_next_any_at (P := Tryd.prog) w q (bs l) i o.type hI hi
  refine ⟨_, w.iterAt q (bs l) (i + (Utf8.decode (bs l) i).2), ?_, _, rfl, (dec_bad hc hf).1, fr_iterAt w q _ _⟩
  unfold execOp
  simp only [h, hx, Sem.run_bind, hs, Result.andThen_ok, Sem.run_pure]
/-- A byte cut out of a string. -/
theorem rn_cut1 {l : List UInt8} {i : Nat} {a b : Int} (h : o.op = .slice 9 x (some y) (some z) none) (hx : ρ x = .string (bs l)) (hy : ρ y = .int .i64 a) (hz : ρ z = .int .i64 b) (ea : a = (i : Int)) (eb : b = ((i + 1 : Nat) : Int)) (hi : i < l.length) (w : World) :
    (execOp ρ o).run Tryd.prog w = .ok (.value (.string (bs [l.getD i 0]))) w := by
  subst ea eb
  have e : (bs l).extract i (i + 1) = bs [l.getD i 0] := by
    apply ByteArray.ext
    apply Array.ext'
    simp [bs, List.extract_eq_take_drop, List.getD_eq_getElem?_getD, List.take_one, hi]
  have hsz := bs_size l
  obtain ⟨dst, op, ty, pos, after, guard⟩ := o
  simp only at h
  subst h
  go_simp
  rw [if_pos (by omega), if_pos (by omega)]
/-- A rune as a string. -/
theorem rn_cvRS {c : UInt8} {r : Int} (h : o.op = .convert 21 9 x) (hx : ρ x = .int .i32 r) (e : r = (c.toNat : Int)) (hc : c.toNat < 128) (w : World) : (execOp ρ o).run Tryd.prog w = .ok (.value (.string (bs [c]))) w := by
  subst e
  have e1 : Utf8.encode ((c.toNat : Nat) : Int) = bs [c] := by
    have h1 : Utf8.valid ((c.toNat : Nat) : Int) = true := by simp [Utf8.valid]; omega
    unfold Utf8.encode
    simp only [h1, if_true, Int.toNat_natCast]
    rw [if_pos (by omega)]
    simp
  have hs : (convert 21 9 (.int .i32 (c.toNat : Int))).run Tryd.prog w = .ok (.string (bs [c])) w := by
    simp [convert, run_underlying Tryd.underlying21, run_underlying Tryd.underlying9, Conv.intToString, e1]
  unfold execOp
  simp only [h, hx, Sem.run_bind, hs, Result.andThen_ok, Sem.run_pure]
theorem ivs_one (l : List Int) : ∀ u ∈ ivs l, u.oneCell' = true := by
  intro u hu
  simp only [ivs, List.mem_map] at hu
  obtain ⟨n, _, rfl⟩ := hu
  rfl
theorem rd_own {t : TypeId} {b : Nat} {l : List Int} (h : Blk w b t (ivs l).toArray) : Rd w b (some ⟨b, 0, none⟩) l.length (ivs l) := rd_blk h rfl (by rw [List.length_map])
theorem rd_ownT {t : TypeId} {b : Nat} {l : List (List UInt8)} (h : Blk w b t (svs l).toArray) : Rd w b (some ⟨b, 0, none⟩) l.length (svs l) := rd_blk h rfl (by rw [List.length_map])
theorem rn_ixDJ {g n c k : Nat} {i : Int} (h : o.op = .indexAddr 22 x y) (hx : ρ x = .slice (some ⟨g, 0, none⟩) n c) (hy : ρ y = .int .i64 i) (e : i = (k : Int)) (hk : k < n) (w : World) : (execOp ρ o).run Tryd.prog w = .ok (.value (.pointer (some ⟨g, k, none⟩))) w := by
  subst e
  exact rn_idxJ (i := k) h hx hy hk (by rw [addr_add, Nat.mul_one, Nat.zero_add]) w
theorem rn_ixDT {g n c k : Nat} {i : Int} (h : o.op = .indexAddr 70 x y) (hx : ρ x = .slice (some ⟨g, 0, none⟩) n c) (hy : ρ y = .int .i64 i) (e : i = (k : Int)) (hk : k < n) (w : World) : (execOp ρ o).run Tryd.prog w = .ok (.value (.pointer (some ⟨g, k, none⟩))) w := by
  subst e
  exact rn_idxT (i := k) h hx hy hk (by rw [addr_add, Nat.mul_one, Nat.zero_add]) w
theorem rn_ldC {g k : Nat} {v : Value} (h : o.op = .load 3 x) (hx : ρ x = .pointer (some ⟨g, k, none⟩)) (hc : w.cell? ⟨g, k, none⟩ = some v) : (execOp ρ o).run Tryd.prog w = .ok (.value v) w := by
  unfold execOp
  simp only [h, hx, Sem.run_bind, run_loadI Tryd.underlying3 hc, Result.andThen_ok, Sem.run_pure]
/-- A builder loaded. -/
theorem rn_ldN {g : Nat} {t : TypeId} {f : List Int} (h : o.op = .load 39 x) (hx : ρ x = .pointer (some ⟨g, 0, none⟩)) (hB : Blk w g t (cbF f)) : (execOp ρ o).run Tryd.prog w = .ok (.value (.agg (cbF f))) w :=
  rn_ldp (cbF f).toList h hx undN rfl (by rw [Array.length_toList, cb_size]; exact infoN17) hB (by rw [List.drop_zero]; exact List.take_of_length_le (Nat.le_refl _))
/-- append onto a row of the call's own. -/
theorem rx_appJ {base n m c b : Nat} {v : Value} {A : Option Addr} {l news : List Int} (hown : w.ownsRow base 3 1 v n (ivs l)) (hr : Rd w b A m (ivs news)) (h : o.op = .call { callee := .builtin .append, args := #[x, y], argTypes := #[22, 22] })
    (hx : ρ x = v) (hy : ρ y = .slice A m c) (h63 : n + m ≤ 1000000) (hbase : base ≤ w.heap.size) :
    ∃ v' w', (execOp ρ o).run Tryd.prog w = .ok (.value v') w' ∧ w'.ownsRow base 3 1 v' (n + m) (ivs (l ++ news)) ∧ w.grownBy w' v.ownBlock := by
  obtain ⟨ti, hi, hz, hsize, hby⟩ := info_parts infoJe1
  obtain ⟨v', w', h1, h2, h3, _⟩ := run_append_any (P := Tryd.prog) w base 22 o.type 3 ti (.int .i64 0) 8 Tryd.underlying22 hi hz hsize hby rfl v n (ivs l) hown b A m c (ivs news) hr (ivs_one _) (by unfold maxLen; omega) (by omega) hbase
  refine ⟨v', w', ?_, by rw [ivs, List.map_append]; exact h2, h3⟩
  unfold execOp
  simp only [h, resolve, invoke, builtin, Sem.run_bind, Sem.run_pure, Result.andThen_ok, List.map_toArray, List.map_cons, List.map_nil, hx, hy, h1]
/-- A builder's numbers copied into a row of zeros. -/
theorem rx_copyN {g p n : Nat} {f : List Int} (hd : Blk w g 3 (ivs (List.replicate n 0)).toArray) (hB : Blk w p 39 (cbF f)) (hn : n = min f.length 16) (h : o.op = .call { callee := .builtin .copy, args := #[x, y], argTypes := #[22, 22] })
    (hx : ρ x = .slice (some ⟨g, 0, none⟩) n n) (hy : ρ y = .slice (some ⟨p, 0, none⟩) 16 16) :
    ∃ v' w', (execOp ρ o).run Tryd.prog w = .ok (.value v') w' ∧ Blk w' g 3 (ivs (f.take 16)).toArray ∧ Fr (fun k => k = g) w w' := by
  obtain ⟨ti, hi, hz, hsize, hby⟩ := info_parts infoJe1
  have hl : (ivs (f.take 16)).length = n := by rw [ivs, List.length_map, List.length_take]; omega
  have hrun := run_copy_row (P := Tryd.prog) w 22 22 o.type 3 g 0 n n ⟨p, 0, none⟩ 16 16 _ 3 (ivs (f.take 16)) Tryd.underlying22 (by rw [hi]; exact congrArg some hsize) hd
    (by rw [hl]; exact (Nat.min_eq_right (by omega)).symm) (fun j u hu => by
      rw [addr_add, Nat.zero_add, hB.cell, List.getElem?_toArray, List.getElem?_map]
      have hj : j < n := by
        have := (List.getElem?_eq_some_iff.1 hu).1
        rwa [hl] at this
      rw [buI_at (by omega) (by omega)]
      rw [ivs, List.getElem?_map, List.getElem?_take, if_pos (by omega)] at hu
      exact hu) (by simp [ivs]; omega) (ivs_one _)
  refine ⟨.int .i64 ((ivs (f.take 16)).length : Int), w.setRow g (ivs (f.take 16)).toArray, ?_, setRow_heap w g _ _ _ _ hd, fr_setRow w g _⟩
  have e2 : ((ivs (List.replicate n (0 : Int))).toArray.toList.take 0 ++ ivs (f.take 16) ++ (ivs (List.replicate n (0 : Int))).toArray.toList.drop (0 + (ivs (f.take 16)).length)).toArray = (ivs (f.take 16)).toArray := by
    rw [List.take_zero, List.nil_append, Nat.zero_add, hl, List.drop_eq_nil_of_le (by simp [ivs]), List.append_nil]
  rw [e2] at hrun
  unfold execOp
  simp only [h, resolve, invoke, builtin, Sem.run_bind, Sem.run_pure, Result.andThen_ok, List.map_toArray, List.map_cons, List.map_nil, hx, hy, hrun, goInt]
end

/-! ### A cell of a block of the call's own stored, at any place -/
theorem lay_one {cs : Array Value} {i : Nat} {v : Value} (h : i < cs.size) : lay cs i #[v] = setI cs i v := by
  unfold lay setI
  congr 1
  apply List.ext_getElem?
  intro k
  rw [List.getElem?_set]
  simp only [List.size_toArray, List.length_cons, List.length_nil, Nat.zero_add]
  have hl : cs.toList.length = cs.size := Array.length_toList
  rcases Nat.lt_trichotomy k i with hk | rfl | hk
  · rw [if_neg (by omega), List.append_assoc, List.getElem?_append_left (by simp; omega), List.getElem?_take, if_pos hk]
  · rw [if_pos rfl, if_pos (by omega), List.append_assoc, List.getElem?_append_right (by simp; omega)]
    simp [Nat.min_eq_left (Nat.le_of_lt h)]
  · rw [if_neg (by omega), List.getElem?_append_right (by simp; omega)]
    simp only [List.length_append, List.length_take, List.length_cons, List.length_nil, List.getElem?_drop]
    congr 1
    omega
section
variable {DF : List Deferred} {ops : Array Oper} {Q : Exit → Act → World → Prop} {a : Act} {w w0 : World} {rest : List Oper} {o : Oper} {N k : Nat} {F : List (Nat × Value)} {H : List Bk}
theorem lSetD (i : Nat) {off : Nat} {b : Bk} {v : Value} {cs : Array Value} {ty : TypeId} {x y : Operand} (he : EnvD DF N F a) (hH : Hp w0 H w) (hd : o.dst = none) (hw : Region.wanted o (yielded ops a.tmps) = true)
    (ho : o.op = .store ty x y) (hb : H[i]? = some b) (hx : evO F x = some (.pointer (some ⟨b.p, off, none⟩))) (hy : evO F y = some v) (hv : v.cells = #[v])
    (hi : (Tryd.prog.info? ty).map (·.size) = some 1) (h1 : v.oneCell' = true) (hfit : off < b.cs.size) (hcs : setI b.cs off v = cs)
    (next : ∀ w' a', Hp w0 (H.set i ⟨b.p, b.t, cs⟩) w' → Fr (fun k => k = b.p) w w' → EnvD DF N F a' → wpList Tryd.prog ops Q rest a' w') : wpList Tryd.prog ops Q (o :: rest) a w :=
  wpList_step fun K hK => by
    rw [if_pos hw]
    exact storeV_does ho (he.op hx) (he.op hy) hv (hH.at hb) hi (by show off + 1 ≤ _; omega) (fun u hu => by simp at hu; subst hu; exact h1) (fun w' hB hf _ => hK _ _ (by rw [hd]; exact next _ _ (hH.set hb (by rw [← hcs, ← lay_one hfit]; exact hB) hf) hf (he.put0 _)))
theorem hSetD {md : Region.Mode} {S : World → Prop} {fuel : Nat} {listed : Array Bool} {n : Nat} (i : Nat) {off : Nat} {b : Bk} {v : Value} {cs : Array Value} {ty : TypeId} {x y : Operand} (he : EnvD DF N F a) (hH : Hp w0 H w) (hr : Region.ready md ops listed = [n]) (hoi : ops[n]? = some o) (hd : o.dst = none) (hw : Region.wanted o (yielded ops a.tmps) = true)
    (ho : o.op = .store ty x y) (hb : H[i]? = some b) (hx : evO F x = some (.pointer (some ⟨b.p, off, none⟩))) (hy : evO F y = some v) (hv : v.cells = #[v])
    (hi : (Tryd.prog.info? ty).map (·.size) = some 1) (h1 : v.oneCell' = true) (hfit : off < b.cs.size) (hcs : setI b.cs off v = cs)
    (next : ∀ w' a', Hp w0 (H.set i ⟨b.p, b.t, cs⟩) w' → Fr (fun k => k = b.p) w w' → EnvD DF N F a' → S w' ∧ wpAnyH Tryd.prog md ops Q S fuel (listed.setIfInBounds n true) a' w') : wpAnyH Tryd.prog md ops Q S (fuel + 1) listed a w :=
  allH hr hoi hw (fun K hK => storeV_does ho (he.op hx) (he.op hy) hv (hH.at hb) hi (by show off + 1 ≤ _; omega) (fun u hu => by simp at hu; subst hu; exact h1) (fun w' hB hf _ => by
    have := next w' (a.put none undef) (hH.set hb (by rw [← hcs, ← lay_one hfit]; exact hB) hf) hf (he.put0 _)
    rw [hd]
    exact hK _ _ this.1 this.2))
/-- A builder stored whole. -/
theorem lay_cb (f g : List Int) : lay (cbF f) 0 (cbF g) = cbF g := by
  unfold lay
  rw [Nat.zero_add, cb_size, List.take_zero, List.nil_append, List.drop_eq_nil_of_le (by rw [Array.length_toList, cb_size]; exact Nat.le_refl _), List.append_nil]
theorem cb_one (f : List Int) : ∀ u ∈ (cbF f).toList, u.oneCell' = true := ivs_one _
theorem lSetN (i : Nat) {b : Bk} {f g : List Int} {x y : Operand} (he : EnvD DF N F a) (hH : Hp w0 H w) (hd : o.dst = none) (hw : Region.wanted o (yielded ops a.tmps) = true)
    (ho : o.op = .store 39 x y) (hb : H[i]? = some b) (hf : b.cs = cbF f) (hx : evO F x = some (.pointer (some ⟨b.p, 0, none⟩))) (hy : evO F y = some (.agg (cbF g)))
    (next : ∀ w' a', Hp w0 (H.set i ⟨b.p, b.t, cbF g⟩) w' → Fr (fun k => k = b.p) w w' → EnvD DF N F a' → wpList Tryd.prog ops Q rest a' w') : wpList Tryd.prog ops Q (o :: rest) a w :=
  wpList_step fun K hK => by
    rw [if_pos hw]
    have hB := hH.at hb
    rw [hf] at hB
    exact storeV_does ho (he.op hx) (he.op hy) (show (Value.agg (cbF g)).cells = cbF g from rfl) hB (by rw [cb_size]; exact infoN17) (by rw [cb_size, cb_size]; exact Nat.le_refl _) (cb_one g) (fun w' hB hf _ => hK _ _ (by rw [hd]; exact next _ _ (hH.set hb (by rw [← lay_cb f g]; exact hB) hf) hf (he.put0 _)))
theorem Fr.nw {S : Nat → Prop} {a b c : World} (h : Fr S a b) (hn : New b c) : Fr S a c := Fr.trans h hn (fun _ _ h => h.elim)
theorem Fr.st {S : Nat → Prop} {a b c : World} (h : Fr S a b) (hf : Fr S b c) : Fr S a c := Fr.trans h hf (fun _ _ h => h)
theorem lt_cb {f : List Int} {k : Nat} (h : k < 17) : k < (cbF f).size := by rw [cb_size]; exact h
theorem infoI1 : (Tryd.prog.info? 3).map (·.size) = some 1 := by kernel_rfl
theorem infoS1 : (Tryd.prog.info? 9).map (·.size) = some 1 := by kernel_rfl
/-- A walk that returns nothing. -/
theorem ret_none {P : Program} {fn : Func} {R : Ending → World → Prop} (hf : fn.results = #[]) (he : Env N F a) (hR : R (.returned (.tuple #[])) w) : bodyPost P fn R .ret a w := ⟨he.df, .tuple #[], by simp [results, hf], hR⟩
theorem end_none {P : Program} {fn : Func} {R : Ending → World → Prop} (hf : fn.results = #[]) (he : Env N F a) (hR : R (.returned (.tuple #[])) w) : bodyPost P fn R .normal a w := ⟨he.df, .tuple #[], by simp [results, hf], hR⟩
end
end Go.Proofs.YtpebpjkhkgakfaaDoor
