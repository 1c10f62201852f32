/-
  packed.withRun: one run more, of a row of the caller's own.
  Rows of the call's own: append, and what else is known behind it; rows of cells as records; make.
  packed.counted.
  packed.Pack, slices.Clone, packed.Join.
-/
import Derived.Test.YtaiijndldngnkaaDoorKB
import Derived.Laws.MakeOwn
namespace Go.Proofs.YtaiijndldngnkaaDoor
open Go.RowKit

abbrev OwnR (w : World) (base : Nat) (v : Value) (n : Nat) (l : List Rn) : Prop := w.ownsRow base 67 4 v n (flatG rR l)
section
variable {ops : Array Oper} {Q : Exit → Act → World → Prop} {S : World → Prop} {md : Region.Mode} {fuel : Nat} {listed : Array Bool} {a : Act} {w : World} {N : Nat} {F : List (Nat × Value)}
/-- One number stored into a row of the call's own. -/
theorem hStOwn {n base g cnt cap off sz : Nat} {o : Oper} {e ty : TypeId} {xs : List Value} {v : Value} {x y : Operand} (he : Env N F a) (hown : w.ownsRow base e sz (.slice (some ⟨g, 0, none⟩) cnt cap) cnt xs) (hr : Region.ready md ops listed = [n]) (hoi : ops[n]? = some o) (hd : o.dst = none) (hw : Region.wanted o (yielded ops a.tmps) = true)
    (ho : o.op = .store ty x y) (hx : evO F x = some (.pointer (some ⟨g, off, none⟩))) (hy : evO F y = some v) (hv : v.cells = #[v]) (h1 : v.oneCell' = true) (hi : (Tryd.prog.info? ty).map (·.size) = some 1) (hoff : off < cnt * sz)
    (next : ∀ w' a', w'.ownsRow base e sz (.slice (some ⟨g, 0, none⟩) cnt cap) cnt (xs.set off v) → Fr (fun k => k = g) w w' → Env N F a' → S w' ∧ wpAnyH Tryd.prog md ops Q S fuel (listed.setIfInBounds n true) a' w') : wpAnyH Tryd.prog md ops Q S (fuel + 1) listed a w := by
  rcases hown.2 with ⟨h', _⟩ | ⟨g', cap', cur, h', hb, hg, hnc, hcm, hcs, htake⟩
  · simp at h'
  · simp only [Value.slice.injEq, Option.some.injEq, Addr.mk.injEq, and_true, true_and] at h'
    obtain ⟨rfl, rfl⟩ := h'
    have hle : cnt * sz ≤ cap * sz := Nat.mul_le_mul_right _ hnc
    have hfit : off + 1 ≤ cur.size := by omega
    refine allH hr hoi hw (fun K hK => storeV_does (news := #[v]) ho (he.op hx) (he.op hy) hv hg hi hfit (fun u hu => by
      have : u = v := by simpa using hu
      rw [this]; exact h1) (fun w' hB hf _ => ?_))
    have hl : (lay cur off #[v]).toList = cur.toList.set off v := by
      rw [List.set_eq_take_append_cons_drop, if_pos (by rw [Array.length_toList]; omega)]
      simp [lay]
    have hown' : w'.ownsRow base e sz (.slice (some ⟨g, 0, none⟩) cnt cap) cnt (xs.set off v) := by
      refine ⟨by rw [List.length_set]; exact hown.1, .inr ⟨g, cap, lay cur off #[v], rfl, hb, hB, hnc, hcm, ?_, ?_⟩⟩
      · rw [lay_size _ _ _ hfit, hcs]
      · rw [hl, List.take_set, htake]
    have := next w' (a.put none undef) hown' hf (he.put0 _)
    rw [hd]
    exact hK _ _ this.1 this.2
end
theorem own_get {w : World} {base g cnt cap sz : Nat} {e : TypeId} {xs : List Value} (h : w.ownsRow base e sz (.slice (some ⟨g, 0, none⟩) cnt cap) cnt xs) : (∃ cur, Blk w g e cur) ∧ base ≤ g := by
  rcases h.2 with ⟨h', _⟩ | ⟨g', cap', cur, h', hb, hg, _⟩
  · simp at h'
  · simp only [Value.slice.injEq, Option.some.injEq, Addr.mk.injEq, and_true, true_and] at h'
    obtain ⟨rfl, rfl⟩ := h'
    exact ⟨⟨cur, hg⟩, hb⟩
theorem flat_setR (m : List Rn) (q : Rn) (x : Int) : (flatG rR (m ++ [q])).set (m.length * 4) (.int .i64 x) = flatG rR (m ++ [⟨x, q.w⟩]) := by
  have hl : (flatG rR m).length = m.length * 4 := flatG_len rR m
  rw [flatG_append, flatG_append, List.set_append_right _ _ (by omega), hl, Nat.sub_self]
  rfl
theorem addR_len (l : List Rn) (r : Rn) : (addR l r).length ≤ l.length + 1 := by
  rcases snoc_cases l with rfl | ⟨m, q, rfl⟩
  · exact Nat.le_refl _
  · rw [addR_snoc]
    split <;> simp

set_option linter.unusedSimpArgs false in
set_option maxRecDepth 100000 in
set_option maxHeartbeats 1600000 in
theorem withRun_nil (base : Nat) (v : Value) (n : Nat)  (r : Rn) (w : World) (hown : OwnR w base v n ([])) (hn : n ≤ 1000000) (hbase : base ≤ w.heap.size) :
    Calls Tryd.prog 38 #[v, r.v] w fun e w' => ∃ v', e = .returned v' ∧ OwnR w' base v' ([r]).length ([r]) ∧ Fr (fun k => base ≤ k) w w' := by
  have hlen := own_len (R := rR) hown
  obtain rfl : n = 0 := by simpa using hlen.symm
  obtain ⟨b, A, cap, rfl, hc, hr⟩ := own_rdg (R := rR) hown
  refine calls_args (vl := [Value.slice A 0 cap, Rn.v r]) 36 Tryd.func38 rfl Tryd.ntmps38 (by kernel_rfl) (fun a he => ?_)
  have he0 : Env 36 [(0, Value.slice A 0 cap), (1, Rn.v r)] a := he
  clear he
  have hH := Hp.start w
  refine wp_seq ?_
  refine wp_region_lit ?_
  refine lNew (fun p => .pointer (some ⟨p, 0, none⟩)) he0 hH rfl rfl (wanted_plain rfl _) (rn_boxR rfl (he0.op rfl) w) ?_
  intro p1 w1 a2 hn hH1 he2
  clear he0 a hH hn
  refine lV (Value.slice none 0 0) he2 rfl rfl (wanted_plain rfl _) (rn_asg rfl (he2.op rfl) w1) ?_
  intro a3 he3
  clear he2 a2
  refine wpList_nil ?_
  refine then_ok ?_
  refine wp_seq ?_
  refine wp_seq ?_
  refine wp_region_lit ?_
  refine lV (Value.slice A 0 cap) he3 rfl rfl (wanted_plain rfl _) (rn_mv rfl (he3.op rfl) w1) ?_
  intro a4 he4
  clear he3 a3
  refine lV (Value.int .i64 0) he4 rfl rfl (wanted_plain rfl _) (rn_lenR rfl (he4.op rfl) w1) ?_
  intro a5 he5
  clear he4 a4
  refine lV (Value.int .i64 (-1)) he5 rfl rfl (wanted_plain rfl _) (rn_subI rfl (he5.op rfl) (he5.op rfl) (by decide) w1) ?_
  intro a6 he6
  clear he5 a5
  refine lV (Value.int .i64 (-1)) he6 rfl rfl (wanted_plain rfl _) (rn_asg rfl (he6.op rfl) w1) ?_
  intro a7 he7
  clear he6 a6
  refine wpList_nil ?_
  refine then_ok ?_
  refine wp_seq ?_
  refine wp_region_held_drew (S := Hp w [⟨p1, 67, (Rn.cs r)⟩]) (by kernel_rfl) (hH1.drew) (fun _ => ?_)
  have hn : New w1 (World.drew w1) := (Fr.refl _ _).drew
  clear hn
  have hH8 := hH1.drew
  clear hH1
  generalize World.drew w1 = w8 at *
  refine hV (fuel := 11) (i := 0) (Value.int .i64 (-1)) he7 rfl rfl rfl (by kernel_rfl) (by kernel_rfl) (by kernel_rfl) (fun _ _ _ h => h) (wanted_plain rfl _) (fun w' _ => rn_mv rfl (he7.op rfl) w') hH8 ?_
  intro a9 he9
  clear he7 a7
  refine hV (fuel := 10) (i := 1) (Value.bool false) he9 rfl rfl rfl (by kernel_rfl) (by kernel_rfl) (by kernel_rfl) (fun _ _ _ h => h) (wanted_plain rfl _) (fun w' _ => rn_geq rfl (he9.op rfl) (he9.op rfl) (by decide) w') hH8 ?_
  intro a10 he10
  clear he9 a9
  refine hV (fuel := 9) (i := 2) (Value.bool false) he10 rfl rfl rfl (by kernel_rfl) (by kernel_rfl) (by kernel_rfl) (fun _ _ _ h => h) (wanted_plain rfl _) (fun w' _ => rn_mv rfl (he10.op rfl) w') hH8 ?_
  intro a11 he11
  clear he10 a10
  refine hSkip (fuel := 8) (i := 3) he11 rfl rfl rfl (by kernel_rfl) (by kernel_rfl) (by kernel_rfl) (fun _ _ _ h => h) (he11.wantNot rfl rfl rfl rfl rfl rfl) hH8 ?_
  intro a12 he12
  clear he11 a11
  refine hSkip (fuel := 7) (i := 4) he12 rfl rfl rfl (by kernel_rfl) (by kernel_rfl) (by kernel_rfl) (fun _ _ _ h => h) (he12.wantNot rfl rfl rfl rfl rfl rfl) hH8 ?_
  intro a13 he13
  clear he12 a12
  refine hSkip (fuel := 6) (i := 5) he13 rfl rfl rfl (by kernel_rfl) (by kernel_rfl) (by kernel_rfl) (fun _ _ _ h => h) (he13.wantNot rfl rfl rfl rfl rfl rfl) hH8 ?_
  intro a14 he14
  clear he13 a13
  refine hSkip (fuel := 5) (i := 6) he14 rfl rfl rfl (by kernel_rfl) (by kernel_rfl) (by kernel_rfl) (fun _ _ _ h => h) (he14.wantNot rfl rfl rfl rfl rfl rfl) hH8 ?_
  intro a15 he15
  clear he14 a14
  refine hSkip (fuel := 4) (i := 7) he15 rfl rfl rfl (by kernel_rfl) (by kernel_rfl) (by kernel_rfl) (fun _ _ _ h => h) (he15.wantNot rfl rfl rfl rfl rfl rfl) hH8 ?_
  intro a16 he16
  clear he15 a15
  refine hSkip (fuel := 3) (i := 8) he16 rfl rfl rfl (by kernel_rfl) (by kernel_rfl) (by kernel_rfl) (fun _ _ _ h => h) (he16.wantNot rfl rfl rfl rfl rfl rfl) hH8 ?_
  intro a17 he17
  clear he16 a16
  refine hSkip (fuel := 2) (i := 9) he17 rfl rfl rfl (by kernel_rfl) (by kernel_rfl) (by kernel_rfl) (fun _ _ _ h => h) (he17.wantNot rfl rfl rfl rfl rfl rfl) hH8 ?_
  intro a18 he18
  clear he17 a17
  refine hSkip (fuel := 1) (i := 10) he18 rfl rfl rfl (by kernel_rfl) (by kernel_rfl) (by kernel_rfl) (fun _ _ _ h => h) (he18.wantNot rfl rfl rfl rfl rfl rfl) hH8 ?_
  intro a19 he19
  clear he18 a18
  refine hV (fuel := 0) (i := 11) (Value.bool false) he19 rfl rfl rfl (by kernel_rfl) (by kernel_rfl) (by kernel_rfl) (fun _ _ _ h => h) (wanted_plain rfl _) (fun w' _ => rn_pk0 rfl (he19.op rfl) (he19.op rfl) w') hH8 ?_
  intro a20 he20
  clear he19 a19
  refine wpAnyH_done (by kernel_rfl) ?_ _
  refine then_ok ?_
  have he21 : Env 36 [(20, Value.bool false), (5, Value.int .i64 (-1)), (3, Value.pointer (some ⟨p1, 0, none⟩)), (0, Value.slice A 0 cap)] a20 := he20.mem ⟨rfl, rfl, rfl, rfl, trivial⟩
  clear he20
  refine wp_cond_false (he21.op rfl) ?_
  refine wp_skip ?_
  refine then_ok ?_
  refine wp_seq ?_
  refine wp_region_lit ?_
  refine lV (Value.slice A 0 cap) he21 rfl rfl (wanted_plain rfl _) (rn_mv rfl (he21.op rfl) w8) ?_
  intro a22 he22
  clear he21 a20
  refine lV (Rn.v r) he22 rfl rfl (wanted_plain rfl _) (rn_loadR rfl (he22.op rfl) (hH8.at (i := 0) rfl)) ?_
  intro a23 he23
  clear he22 a22
  refine lNew (fun p => .slice (some ⟨p, 0, none⟩) 1 1) he23 hH8 rfl rfl (wanted_plain rfl _) (rn_bsr1 rfl (he23.op rfl) w8) ?_
  intro p24 w24 a25 hn hH24 he25
  clear he23 a23 hH8 hn
  have hown1 := own_fr hown hH24.new (fun _ _ h => h)
  have hnew := rdg_blk (R := rR) (n := 1) (l := [r]) (hH24.at (i := 0) rfl) rfl rfl
  refine lAppG (R := rR) hown1 hnew he25 rfl rfl (wanted_plain rfl _) rfl rfl rfl (by omega) (Nat.le_trans hbase hH24.new.size) ?_
  intro vx wx a26 ho2 hgr he26
  clear he25 a25
  have hf : Fr (fun k => base ≤ k) w wx := Fr.grown (Fr.weak hH24.new (fun _ _ h => h.elim)) hgr (fun k hk => .inl (own_blk hown1 k hk))
  clear hH24 hnew hown1 hgr
  refine lV (vx) he26 rfl rfl (wanted_plain rfl _) (rn_asg rfl (he26.op rfl) wx) ?_
  intro a27 he27
  clear he26 a26
  refine wpList_nil ?_
  refine then_ok ?_
  refine wp_ret ?_
  try simp only [Exit.then, Exit.inBlock]
  refine ret_env rfl he27 rfl ⟨_, rfl, ?_, hf⟩
  exact ho2

set_option linter.unusedSimpArgs false in
set_option maxRecDepth 100000 in
set_option maxHeartbeats 1600000 in
theorem withRun_ne (base : Nat) (v : Value) (n : Nat) (m : List Rn) (q : Rn) (r : Rn) (w : World) (hown : OwnR w base v n (m ++ [q])) (hq : q.w ≠ r.w) (hn : n ≤ 1000000) (hbase : base ≤ w.heap.size) :
    Calls Tryd.prog 38 #[v, r.v] w fun e w' => ∃ v', e = .returned v' ∧ OwnR w' base v' (m ++ [q] ++ [r]).length (m ++ [q] ++ [r]) ∧ Fr (fun k => base ≤ k) w w' := by
  have hlen := own_len (R := rR) hown
  obtain rfl : n = m.length + 1 := by simpa using hlen.symm
  obtain ⟨b, A, cap, rfl, hc, hr⟩ := own_rdg (R := rR) hown
  obtain ⟨g, cap', cur, hv', hg, -⟩ := hown.2.resolve_left (fun h => by simp at h)
  simp only [Value.slice.injEq, true_and] at hv'
  obtain ⟨rfl, rfl⟩ := hv'
  obtain ⟨o', ho', -⟩ := hr.2 (by omega)
  simp only [Option.some.injEq, Addr.mk.injEq, and_true] at ho'
  obtain ⟨rfl, rfl⟩ := ho'
  have hm : (m ++ [q])[m.length]? = some q := by simp
  refine calls_args (vl := [Value.slice (some ⟨g, 0, none⟩) (m.length + 1) cap, Rn.v r]) 36 Tryd.func38 rfl Tryd.ntmps38 (by kernel_rfl) (fun a he => ?_)
  have he0 : Env 36 [(0, Value.slice (some ⟨g, 0, none⟩) (m.length + 1) cap), (1, Rn.v r)] a := he
  clear he
  have hH := Hp.start w
  refine wp_seq ?_
  refine wp_region_lit ?_
  refine lNew (fun p => .pointer (some ⟨p, 0, none⟩)) he0 hH rfl rfl (wanted_plain rfl _) (rn_boxR rfl (he0.op rfl) w) ?_
  intro p1 w1 a2 hn hH1 he2
  clear he0 a hH hn
  refine lV (Value.slice none 0 0) he2 rfl rfl (wanted_plain rfl _) (rn_asg rfl (he2.op rfl) w1) ?_
  intro a3 he3
  clear he2 a2
  refine wpList_nil ?_
  refine then_ok ?_
  refine wp_seq ?_
  refine wp_seq ?_
  refine wp_region_lit ?_
  refine lV (Value.slice (some ⟨g, 0, none⟩) (m.length + 1) cap) he3 rfl rfl (wanted_plain rfl _) (rn_mv rfl (he3.op rfl) w1) ?_
  intro a4 he4
  clear he3 a3
  refine lV (Value.int .i64 ((m.length + 1) : Nat)) he4 rfl rfl (wanted_plain rfl _) (rn_lenR rfl (he4.op rfl) w1) ?_
  intro a5 he5
  clear he4 a4
  refine lV (Value.int .i64 (m.length : Int)) he5 rfl rfl (wanted_plain rfl _) (rn_subI rfl (he5.op rfl) (he5.op rfl) (by rw [IntWalk.i64_in _ ⟨by omega, by omega⟩]; omega) w1) ?_
  intro a6 he6
  clear he5 a5
  refine lV (Value.int .i64 (m.length : Int)) he6 rfl rfl (wanted_plain rfl _) (rn_asg rfl (he6.op rfl) w1) ?_
  intro a7 he7
  clear he6 a6
  refine wpList_nil ?_
  refine then_ok ?_
  refine wp_seq ?_
  refine wp_region_held_drew (S := Hp w [⟨p1, 67, (Rn.cs r)⟩]) (by kernel_rfl) (hH1.drew) (fun _ => ?_)
  have hn : New w1 (World.drew w1) := (Fr.refl _ _).drew
  clear hn
  have hH8 := hH1.drew
  clear hH1
  generalize World.drew w1 = w8 at *
  refine hV (fuel := 11) (i := 0) (Value.int .i64 (m.length : Int)) he7 rfl rfl rfl (by kernel_rfl) (by kernel_rfl) (by kernel_rfl) (fun _ _ _ h => h) (wanted_plain rfl _) (fun w' _ => rn_mv rfl (he7.op rfl) w') hH8 ?_
  intro a9 he9
  clear he7 a7
  refine hV (fuel := 10) (i := 1) (Value.bool true) he9 rfl rfl rfl (by kernel_rfl) (by kernel_rfl) (by kernel_rfl) (fun _ _ _ h => h) (wanted_plain rfl _) (fun w' _ => rn_geq rfl (he9.op rfl) (he9.op rfl) (decide_eq_true (by omega)) w') hH8 ?_
  intro a10 he10
  clear he9 a9
  refine hV (fuel := 9) (i := 2) (Value.bool true) he10 rfl rfl rfl (by kernel_rfl) (by kernel_rfl) (by kernel_rfl) (fun _ _ _ h => h) (wanted_plain rfl _) (fun w' _ => rn_mv rfl (he10.op rfl) w') hH8 ?_
  intro a11 he11
  clear he10 a10
  refine hV (fuel := 8) (i := 3) (Value.slice (some ⟨g, 0, none⟩) (m.length + 1) cap) he11 rfl rfl rfl (by kernel_rfl) (by kernel_rfl) (by kernel_rfl) (fun _ _ _ h => h) (he11.want rfl rfl rfl rfl rfl) (fun w' _ => rn_mv rfl (he11.op rfl) w') hH8 ?_
  intro a12 he12
  clear he11 a11
  refine hV (fuel := 7) (i := 4) (Value.int .i64 (m.length : Int)) he12 rfl rfl rfl (by kernel_rfl) (by kernel_rfl) (by kernel_rfl) (fun _ _ _ h => h) (he12.want rfl rfl rfl rfl rfl) (fun w' _ => rn_mv rfl (he12.op rfl) w') hH8 ?_
  intro a13 he13
  clear he12 a12
  refine hV (fuel := 6) (i := 5) (Value.pointer (some ⟨g, 0 + m.length * 4, none⟩)) he13 rfl rfl rfl (by kernel_rfl) (by kernel_rfl) (by kernel_rfl) (fun _ _ _ h => h) (he13.want rfl rfl rfl rfl rfl) (fun w' _ => rn_idxR (i := m.length) rfl (he13.op rfl) (he13.op rfl) (by omega) (by rw [addr_add]) w') hH8 ?_
  intro a14 he14
  clear he13 a13
  refine hV (fuel := 5) (i := 6) (Value.pointer (some ⟨g, 0 + m.length * 4 + 1, none⟩)) he14 rfl rfl rfl (by kernel_rfl) (by kernel_rfl) (by kernel_rfl) (fun _ _ _ h => h) (he14.want rfl rfl rfl rfl rfl) (fun w' _ => rn_faR1 rfl (he14.op rfl) rfl w') hH8 ?_
  intro a15 he15
  clear he14 a14
  refine hV (fuel := 4) (i := 7) (Wd.v q.w) he15 rfl rfl rfl (by kernel_rfl) (by kernel_rfl) (by kernel_rfl) (fun _ _ _ h => h) (he15.want rfl rfl rfl rfl rfl) (fun w' hw' => rn_sRw (i := m.length) rfl (he15.op rfl) (hr.new hw'.new) rfl hm) hH8 ?_
  intro a16 he16
  clear he15 a15
  refine hV (fuel := 3) (i := 8) (Value.pointer (some ⟨p1, 1, none⟩)) he16 rfl rfl rfl (by kernel_rfl) (by kernel_rfl) (by kernel_rfl) (fun _ _ _ h => h) (he16.want rfl rfl rfl rfl rfl) (fun w' _ => rn_faR1 rfl (he16.op rfl) rfl w') hH8 ?_
  intro a17 he17
  clear he16 a16
  refine hV (fuel := 2) (i := 9) (Wd.v r.w) he17 rfl rfl rfl (by kernel_rfl) (by kernel_rfl) (by kernel_rfl) (fun _ _ _ h => h) (he17.want rfl rfl rfl rfl rfl) (fun w' hw' => rn_ldp [Value.int .u64 r.w.a, Value.int .u64 r.w.b, Value.int .u64 r.w.c] rfl (he17.op rfl) Tryd.underlying34 rfl infoW3 (hw'.at (i := 0) rfl) rfl) hH8 ?_
  intro a18 he18
  clear he17 a17
  refine hV (fuel := 1) (i := 10) (Value.bool false) he18 rfl rfl rfl (by kernel_rfl) (by kernel_rfl) (by kernel_rfl) (fun _ _ _ h => h) (he18.want rfl rfl rfl rfl rfl) (fun w' _ => rn_eqW rfl (he18.op rfl) (he18.op rfl) (decide_eq_false hq) w') hH8 ?_
  intro a19 he19
  clear he18 a18
  refine hV (fuel := 0) (i := 11) (Value.bool false) he19 rfl rfl rfl (by kernel_rfl) (by kernel_rfl) (by kernel_rfl) (fun _ _ _ h => h) (wanted_plain rfl _) (fun w' _ => rn_pk rfl (he19.op rfl) (he19.op rfl) w') hH8 ?_
  intro a20 he20
  clear he19 a19
  refine wpAnyH_done (by kernel_rfl) ?_ _
  refine then_ok ?_
  have he21 : Env 36 [(20, Value.bool false), (5, Value.int .i64 (m.length : Int)), (3, Value.pointer (some ⟨p1, 0, none⟩)), (0, Value.slice (some ⟨g, 0, none⟩) (m.length + 1) cap)] a20 := he20.mem ⟨rfl, rfl, rfl, rfl, trivial⟩
  clear he20
  refine wp_cond_false (he21.op rfl) ?_
  refine wp_skip ?_
  refine then_ok ?_
  refine wp_seq ?_
  refine wp_region_lit ?_
  refine lV (Value.slice (some ⟨g, 0, none⟩) (m.length + 1) cap) he21 rfl rfl (wanted_plain rfl _) (rn_mv rfl (he21.op rfl) w8) ?_
  intro a22 he22
  clear he21 a20
  refine lV (Rn.v r) he22 rfl rfl (wanted_plain rfl _) (rn_loadR rfl (he22.op rfl) (hH8.at (i := 0) rfl)) ?_
  intro a23 he23
  clear he22 a22
  refine lNew (fun p => .slice (some ⟨p, 0, none⟩) 1 1) he23 hH8 rfl rfl (wanted_plain rfl _) (rn_bsr1 rfl (he23.op rfl) w8) ?_
  intro p24 w24 a25 hn hH24 he25
  clear he23 a23 hH8 hn
  have hown1 := own_fr hown hH24.new (fun _ _ h => h)
  have hnew := rdg_blk (R := rR) (n := 1) (l := [r]) (hH24.at (i := 0) rfl) rfl rfl
  refine lAppG (R := rR) hown1 hnew he25 rfl rfl (wanted_plain rfl _) rfl rfl rfl (by omega) (Nat.le_trans hbase hH24.new.size) ?_
  intro vx wx a26 ho2 hgr he26
  clear he25 a25
  have hf : Fr (fun k => base ≤ k) w wx := Fr.grown (Fr.weak hH24.new (fun _ _ h => h.elim)) hgr (fun k hk => .inl (own_blk hown1 k hk))
  clear hH24 hnew hown1 hgr
  refine lV (vx) he26 rfl rfl (wanted_plain rfl _) (rn_asg rfl (he26.op rfl) wx) ?_
  intro a27 he27
  clear he26 a26
  refine wpList_nil ?_
  refine then_ok ?_
  refine wp_ret ?_
  try simp only [Exit.then, Exit.inBlock]
  refine ret_env rfl he27 rfl ⟨_, rfl, ?_, hf⟩
  have e : (m ++ [q] ++ [r]).length = m.length + 1 + 1 := by simp
  rw [OwnR, e]; exact ho2

set_option linter.unusedSimpArgs false in
set_option maxRecDepth 100000 in
set_option maxHeartbeats 1600000 in
theorem withRun_eq (base : Nat) (v : Value) (n : Nat) (m : List Rn) (q : Rn) (r : Rn) (w : World) (hown : OwnR w base v n (m ++ [q])) (hq : q.w = r.w) (h0 : -9223372036854775808 ≤ q.n + r.n) (h1 : q.n + r.n ≤ 9223372036854775807) (hn : n ≤ 1000000) (_ : base ≤ w.heap.size) :
    Calls Tryd.prog 38 #[v, r.v] w fun e w' => ∃ v', e = .returned v' ∧ OwnR w' base v' (m ++ [(⟨q.n + r.n, q.w⟩ : Rn)]).length (m ++ [(⟨q.n + r.n, q.w⟩ : Rn)]) ∧ Fr (fun k => base ≤ k) w w' := by
  have hlen := own_len (R := rR) hown
  obtain rfl : n = m.length + 1 := by simpa using hlen.symm
  obtain ⟨b, A, cap, rfl, hc, hr⟩ := own_rdg (R := rR) hown
  obtain ⟨g, cap', cur, hv', hg, -⟩ := hown.2.resolve_left (fun h => by simp at h)
  simp only [Value.slice.injEq, true_and] at hv'
  obtain ⟨rfl, rfl⟩ := hv'
  obtain ⟨o', ho', -⟩ := hr.2 (by omega)
  simp only [Option.some.injEq, Addr.mk.injEq, and_true] at ho'
  obtain ⟨rfl, rfl⟩ := ho'
  have hm : (m ++ [q])[m.length]? = some q := by simp
  refine calls_args (vl := [Value.slice (some ⟨g, 0, none⟩) (m.length + 1) cap, Rn.v r]) 36 Tryd.func38 rfl Tryd.ntmps38 (by kernel_rfl) (fun a he => ?_)
  have he0 : Env 36 [(0, Value.slice (some ⟨g, 0, none⟩) (m.length + 1) cap), (1, Rn.v r)] a := he
  clear he
  have hH := Hp.start w
  refine wp_seq ?_
  refine wp_region_lit ?_
  refine lNew (fun p => .pointer (some ⟨p, 0, none⟩)) he0 hH rfl rfl (wanted_plain rfl _) (rn_boxR rfl (he0.op rfl) w) ?_
  intro p1 w1 a2 hn hH1 he2
  clear he0 a hH hn
  refine lV (Value.slice none 0 0) he2 rfl rfl (wanted_plain rfl _) (rn_asg rfl (he2.op rfl) w1) ?_
  intro a3 he3
  clear he2 a2
  refine wpList_nil ?_
  refine then_ok ?_
  refine wp_seq ?_
  refine wp_seq ?_
  refine wp_region_lit ?_
  refine lV (Value.slice (some ⟨g, 0, none⟩) (m.length + 1) cap) he3 rfl rfl (wanted_plain rfl _) (rn_mv rfl (he3.op rfl) w1) ?_
  intro a4 he4
  clear he3 a3
  refine lV (Value.int .i64 ((m.length + 1) : Nat)) he4 rfl rfl (wanted_plain rfl _) (rn_lenR rfl (he4.op rfl) w1) ?_
  intro a5 he5
  clear he4 a4
  refine lV (Value.int .i64 (m.length : Int)) he5 rfl rfl (wanted_plain rfl _) (rn_subI rfl (he5.op rfl) (he5.op rfl) (by rw [IntWalk.i64_in _ ⟨by omega, by omega⟩]; omega) w1) ?_
  intro a6 he6
  clear he5 a5
  refine lV (Value.int .i64 (m.length : Int)) he6 rfl rfl (wanted_plain rfl _) (rn_asg rfl (he6.op rfl) w1) ?_
  intro a7 he7
  clear he6 a6
  refine wpList_nil ?_
  refine then_ok ?_
  refine wp_seq ?_
  refine wp_region_held_drew (S := Hp w [⟨p1, 67, (Rn.cs r)⟩]) (by kernel_rfl) (hH1.drew) (fun _ => ?_)
  have hn : New w1 (World.drew w1) := (Fr.refl _ _).drew
  clear hn
  have hH8 := hH1.drew
  clear hH1
  generalize World.drew w1 = w8 at *
  refine hV (fuel := 11) (i := 0) (Value.int .i64 (m.length : Int)) he7 rfl rfl rfl (by kernel_rfl) (by kernel_rfl) (by kernel_rfl) (fun _ _ _ h => h) (wanted_plain rfl _) (fun w' _ => rn_mv rfl (he7.op rfl) w') hH8 ?_
  intro a9 he9
  clear he7 a7
  refine hV (fuel := 10) (i := 1) (Value.bool true) he9 rfl rfl rfl (by kernel_rfl) (by kernel_rfl) (by kernel_rfl) (fun _ _ _ h => h) (wanted_plain rfl _) (fun w' _ => rn_geq rfl (he9.op rfl) (he9.op rfl) (decide_eq_true (by omega)) w') hH8 ?_
  intro a10 he10
  clear he9 a9
  refine hV (fuel := 9) (i := 2) (Value.bool true) he10 rfl rfl rfl (by kernel_rfl) (by kernel_rfl) (by kernel_rfl) (fun _ _ _ h => h) (wanted_plain rfl _) (fun w' _ => rn_mv rfl (he10.op rfl) w') hH8 ?_
  intro a11 he11
  clear he10 a10
  refine hV (fuel := 8) (i := 3) (Value.slice (some ⟨g, 0, none⟩) (m.length + 1) cap) he11 rfl rfl rfl (by kernel_rfl) (by kernel_rfl) (by kernel_rfl) (fun _ _ _ h => h) (he11.want rfl rfl rfl rfl rfl) (fun w' _ => rn_mv rfl (he11.op rfl) w') hH8 ?_
  intro a12 he12
  clear he11 a11
  refine hV (fuel := 7) (i := 4) (Value.int .i64 (m.length : Int)) he12 rfl rfl rfl (by kernel_rfl) (by kernel_rfl) (by kernel_rfl) (fun _ _ _ h => h) (he12.want rfl rfl rfl rfl rfl) (fun w' _ => rn_mv rfl (he12.op rfl) w') hH8 ?_
  intro a13 he13
  clear he12 a12
  refine hV (fuel := 6) (i := 5) (Value.pointer (some ⟨g, 0 + m.length * 4, none⟩)) he13 rfl rfl rfl (by kernel_rfl) (by kernel_rfl) (by kernel_rfl) (fun _ _ _ h => h) (he13.want rfl rfl rfl rfl rfl) (fun w' _ => rn_idxR (i := m.length) rfl (he13.op rfl) (he13.op rfl) (by omega) (by rw [addr_add]) w') hH8 ?_
  intro a14 he14
  clear he13 a13
  refine hV (fuel := 5) (i := 6) (Value.pointer (some ⟨g, 0 + m.length * 4 + 1, none⟩)) he14 rfl rfl rfl (by kernel_rfl) (by kernel_rfl) (by kernel_rfl) (fun _ _ _ h => h) (he14.want rfl rfl rfl rfl rfl) (fun w' _ => rn_faR1 rfl (he14.op rfl) rfl w') hH8 ?_
  intro a15 he15
  clear he14 a14
  refine hV (fuel := 4) (i := 7) (Wd.v q.w) he15 rfl rfl rfl (by kernel_rfl) (by kernel_rfl) (by kernel_rfl) (fun _ _ _ h => h) (he15.want rfl rfl rfl rfl rfl) (fun w' hw' => rn_sRw (i := m.length) rfl (he15.op rfl) (hr.new hw'.new) rfl hm) hH8 ?_
  intro a16 he16
  clear he15 a15
  refine hV (fuel := 3) (i := 8) (Value.pointer (some ⟨p1, 1, none⟩)) he16 rfl rfl rfl (by kernel_rfl) (by kernel_rfl) (by kernel_rfl) (fun _ _ _ h => h) (he16.want rfl rfl rfl rfl rfl) (fun w' _ => rn_faR1 rfl (he16.op rfl) rfl w') hH8 ?_
  intro a17 he17
  clear he16 a16
  refine hV (fuel := 2) (i := 9) (Wd.v r.w) he17 rfl rfl rfl (by kernel_rfl) (by kernel_rfl) (by kernel_rfl) (fun _ _ _ h => h) (he17.want rfl rfl rfl rfl rfl) (fun w' hw' => rn_ldp [Value.int .u64 r.w.a, Value.int .u64 r.w.b, Value.int .u64 r.w.c] rfl (he17.op rfl) Tryd.underlying34 rfl infoW3 (hw'.at (i := 0) rfl) rfl) hH8 ?_
  intro a18 he18
  clear he17 a17
  refine hV (fuel := 1) (i := 10) (Value.bool true) he18 rfl rfl rfl (by kernel_rfl) (by kernel_rfl) (by kernel_rfl) (fun _ _ _ h => h) (he18.want rfl rfl rfl rfl rfl) (fun w' _ => rn_eqW rfl (he18.op rfl) (he18.op rfl) (decide_eq_true hq) w') hH8 ?_
  intro a19 he19
  clear he18 a18
  refine hV (fuel := 0) (i := 11) (Value.bool true) he19 rfl rfl rfl (by kernel_rfl) (by kernel_rfl) (by kernel_rfl) (fun _ _ _ h => h) (wanted_plain rfl _) (fun w' _ => rn_pk rfl (he19.op rfl) (he19.op rfl) w') hH8 ?_
  intro a20 he20
  clear he19 a19
  refine wpAnyH_done (by kernel_rfl) ?_ _
  refine then_ok ?_
  have he21 : Env 36 [(20, Value.bool true), (5, Value.int .i64 (m.length : Int)), (3, Value.pointer (some ⟨p1, 0, none⟩)), (0, Value.slice (some ⟨g, 0, none⟩) (m.length + 1) cap)] a20 := he20.mem ⟨rfl, rfl, rfl, rfl, trivial⟩
  clear he20
  refine wp_cond_true (he21.op rfl) ?_
  refine wp_seq ?_
  have hbx := (hH8.drew).at (i := 0) rfl
  refine wp_region_held_drew (S := fun w' => Blk w' p1 67 (Rn.cs r)) (by kernel_rfl) hbx (fun _ => ?_)
  have hH22 := hH8.drew
  clear hH8
  generalize World.drew w8 = w22 at *
  refine hV (fuel := 10) (i := 0) (Value.slice (some ⟨g, 0, none⟩) (m.length + 1) cap) he21 rfl rfl rfl (by kernel_rfl) (by kernel_rfl) (by kernel_rfl) (fun _ _ _ h => h) (wanted_plain rfl _) (fun w' _ => rn_mv rfl (he21.op rfl) w') hbx ?_
  intro a23 he23
  clear he21 a20
  refine hV (fuel := 9) (i := 1) (Value.int .i64 (m.length : Int)) he23 rfl rfl rfl (by kernel_rfl) (by kernel_rfl) (by kernel_rfl) (fun _ _ _ h => h) (wanted_plain rfl _) (fun w' _ => rn_mv rfl (he23.op rfl) w') hbx ?_
  intro a24 he24
  clear he23 a23
  refine hV (fuel := 8) (i := 2) (Value.pointer (some ⟨g, 0 + m.length * 4, none⟩)) he24 rfl rfl rfl (by kernel_rfl) (by kernel_rfl) (by kernel_rfl) (fun _ _ _ h => h) (wanted_plain rfl _) (fun w' _ => rn_idxR (i := m.length) rfl (he24.op rfl) (he24.op rfl) (by omega) (by rw [addr_add]) w') hbx ?_
  intro a25 he25
  clear he24 a24
  refine hV (fuel := 7) (i := 3) (Value.pointer (some ⟨g, 0 + m.length * 4 + 0, none⟩)) he25 rfl rfl rfl (by kernel_rfl) (by kernel_rfl) (by kernel_rfl) (fun _ _ _ h => h) (wanted_plain rfl _) (fun w' _ => rn_faR0 rfl (he25.op rfl) rfl w') hbx ?_
  intro a26 he26
  clear he25 a25
  refine hV (fuel := 6) (i := 5) (Value.pointer (some ⟨p1, 0, none⟩)) he26 rfl rfl rfl (by kernel_rfl) (by kernel_rfl) (by kernel_rfl) (fun _ _ _ h => h) (wanted_plain rfl _) (fun w' _ => rn_faR0 rfl (he26.op rfl) rfl w') hbx ?_
  intro a27 he27
  clear he26 a26
  refine hV (fuel := 5) (i := 6) (Value.int .i64 r.n) he27 rfl rfl rfl (by kernel_rfl) (by kernel_rfl) (by kernel_rfl) (fun _ _ _ h => h) (wanted_plain rfl _) (fun w' hw' => rn_loadRn rfl (he27.op rfl) hw') hbx ?_
  intro a28 he28
  clear he27 a27
  have hrn := hr.new hH22.new
  refine hVa (fuel := 4) (i := 4) (Value.int .i64 q.n) he28 (by kernel_rfl) rfl rfl rfl (wanted_plain rfl _) (rn_sRn (i := m.length) rfl (he28.op rfl) hrn rfl hm) hbx ?_
  intro a29 he29
  clear he28 a28
  refine hV (fuel := 3) (i := 7) (Value.int .i64 (q.n + r.n)) he29 rfl rfl rfl (by kernel_rfl) (by kernel_rfl) (by kernel_rfl) (fun _ _ _ h => h) (wanted_plain rfl _) (fun w' _ => rn_add1 rfl (he29.op rfl) (he29.op rfl) (by rw [IntWalk.i64_in _ ⟨by omega, by omega⟩]) w') hbx ?_
  intro a30 he30
  clear he29 a29
  refine hV (fuel := 2) (i := 8) (Value.pointer (some ⟨g, 0 + m.length * 4, none⟩)) he30 rfl rfl rfl (by kernel_rfl) (by kernel_rfl) (by kernel_rfl) (fun _ _ _ h => h) (wanted_plain rfl _) (fun w' _ => rn_idxR (i := m.length) rfl (he30.op rfl) (he30.op rfl) (by omega) (by rw [addr_add]) w') hbx ?_
  intro a31 he31
  clear he30 a30
  refine hV (fuel := 1) (i := 9) (Value.pointer (some ⟨g, 0 + m.length * 4 + 0, none⟩)) he31 rfl rfl rfl (by kernel_rfl) (by kernel_rfl) (by kernel_rfl) (fun _ _ _ h => h) (wanted_plain rfl _) (fun w' _ => rn_faR0 rfl (he31.op rfl) rfl w') hbx ?_
  intro a32 he32
  clear he31 a31
  have hown1 := own_fr hown hH22.new (fun _ _ h => h)
  refine hStOwn (fuel := 0) (n := 10) (off := 0 + m.length * 4 + 0) he32 hown1 (by kernel_rfl) rfl rfl (wanted_plain rfl _) rfl rfl rfl rfl rfl (by kernel_rfl) (by omega) ?_
  intro wx a33 ho2 hf he33
  clear he32 a32
  have hpg : p1 ≠ g := fun e => by obtain ⟨⟨cur', hcur⟩, -⟩ := own_get hown; have h1 := Blk.lt hcur; have h3 : w.heap.size ≤ p1 := hH22.lo (i := 0) rfl; omega
  refine ⟨hbx.fr hf hpg, ?_⟩
  refine wpAnyH_done (by kernel_rfl) ?_ _
  refine then_ok ?_
  have hff : Fr (fun k => base ≤ k) w wx := Fr.trans (Fr.weak hH22.new (fun _ _ h => h.elim)) hf (fun i _ e => e ▸ hg)
  rw [show 0 + m.length * 4 + 0 = m.length * 4 by omega, flat_setR] at ho2
  refine wp_seq ?_
  refine wp_region_lit ?_
  refine lV (Value.slice (some ⟨g, 0, none⟩) (m.length + 1) cap) he33 rfl rfl (wanted_plain rfl _) (rn_mv rfl (he33.op rfl) wx) ?_
  intro a34 he34
  clear he33 a33
  refine lV (Value.slice (some ⟨g, 0, none⟩) (m.length + 1) cap) he34 rfl rfl (wanted_plain rfl _) (rn_asg rfl (he34.op rfl) wx) ?_
  intro a35 he35
  clear he34 a34
  refine wpList_nil ?_
  refine then_ok ?_
  refine wp_ret ?_
  try simp only [Exit.then, Exit.inBlock]
  refine ret_env rfl he35 rfl ⟨_, rfl, ?_, hff⟩
  have e : (m ++ [(⟨q.n + r.n, q.w⟩ : Rn)]).length = m.length + 1 := by simp
  rw [OwnR, e]; exact ho2

theorem withRun_any (base : Nat) (v : Value) (n : Nat) (l : List Rn) (r : Rn) (w : World) (hown : OwnR w base v n l) (hs : ∀ q, l.getLast? = some q → -9223372036854775808 ≤ q.n + r.n ∧ q.n + r.n ≤ 9223372036854775807) (hn : n ≤ 1000000) (hbase : base ≤ w.heap.size) :
    Calls Tryd.prog 38 #[v, r.v] w fun e w' => ∃ v', e = .returned v' ∧ OwnR w' base v' (addR l r).length (addR l r) ∧ Fr (fun k => base ≤ k) w w' := by
  rcases snoc_cases l with rfl | ⟨m, q, rfl⟩
  · exact withRun_nil base v n r w hown hn hbase
  · have h := hs q (by simp)
    rw [addR_snoc]
    by_cases hq : q.w = r.w
    · rw [if_pos hq]
      exact withRun_eq base v n m q r w hown hq h.1 h.2 hn hbase
    · rw [if_neg hq]
      exact withRun_ne base v n m q r w hown hq hn hbase
end Go.Proofs.YtaiijndldngnkaaDoor
namespace Go.Proofs.YtaiijndldngnkaaDoor
open Go.RowKit

section
variable {α : Type} {R : Rec α}
/-- append of records onto a row of the call's own, whatever the source is. -/
theorem run_appendO (w : World) (base : Nat) (ty : TypeId) (v : Value) (n : Nat) (l : List α) (hown : w.ownsRow base R.ty R.sz v n (flatG R l))
    (b : Nat) (A : Option Addr) (m c : Nat) (news : List α) (hr : RdG R w b A m news) (hnm : n + m ≤ 100000000) (hbase : base ≤ w.heap.size) :
    ∃ v' w', (Builtin.append_ #[R.sl, R.sl] ty #[v, .slice A m c]).run Tryd.prog w = .ok v' w' ∧ w'.ownsRow base R.ty R.sz v' (n + m) (flatG R (l ++ news)) ∧ w.grownBy w' v.ownBlock ∧ (v'.ownBlock = v.ownBlock ∨ v'.ownBlock = some w.heap.size) := by
  obtain ⟨i, hi, hz, hsize, hby⟩ := info_parts R.info
  have ht := R.und
  have hmb : (n + m) * R.by_ ≤ 140737488355328 := Nat.le_trans (Nat.mul_le_mul hnm R.small) (by decide)
  rcases Nat.eq_zero_or_pos m with rfl | hm
  · have hn : news = [] := List.eq_nil_of_length_eq_zero hr.1
    subst hn
    rcases A with _ | ad
    · refine ⟨v, w, ?_, by simpa using hown, ⟨rfl, rfl, rfl, Nat.le_refl _, fun _ _ _ => rfl⟩, .inl rfl⟩
      rcases hown.2 with ⟨rfl, rfl⟩ | ⟨g, cap, cur, rfl, _, _, hnc, _⟩
      · simp [Builtin.append_, run_underlying ht, sizeOf, typeInfo, hi, Builtin.lenOf, Builtin.firstCells]
      · simp [Builtin.append_, run_underlying ht, sizeOf, typeInfo, hi, Builtin.lenOf, Builtin.firstCells, hnc, storeCells]
    · obtain ⟨v', w', h2, h3, h4, _, h5⟩ := run_append_own_at (P := Tryd.prog) w base R.sl ty R.ty i _ R.sz R.by_ ht hi hz hsize hby R.zc R.pos v n (flatG R l) hown ad 0 c [] (by simp) (by simp) (by simp) (by unfold maxLen; omega) (by simpa using hmb) hbase
      exact ⟨v', w', h2, by simpa using h3, h4, h5⟩
  · obtain ⟨o, rfl, _, hc⟩ := hr.2 hm
    obtain ⟨v', w', h2, h3, h4, _, h5⟩ := run_append_own_at (P := Tryd.prog) w base R.sl ty R.ty i _ R.sz R.by_ ht hi hz hsize hby R.zc R.pos v n (flatG R l) hown ⟨b, o, none⟩ m c (flatG R news) (by rw [flatG_len, hr.1]) (fun j u hu => by
      have hj : j < m * R.sz := by
        have := (List.getElem?_eq_some_iff.1 hu).1
        rw [flatG_len, hr.1] at this
        exact this
      rw [addr_add, hc j hj, hu]) (flatG_one R news) (by unfold maxLen; omega) hmb hbase
    exact ⟨v', w', h2, by rw [flatG_append]; exact h3, h4, h5⟩
variable {ops : Array Oper} {Q : Exit → Act → World → Prop} {a : Act} {w : World} {rest : List Oper} {o : Oper} {N k : Nat} {F : List (Nat × Value)} {l : List α} {n b : Nat} {A : Option Addr}
theorem lAppO {s x : Operand} {base m c : Nat} {v : Value} {news : List α} (hown : w.ownsRow base R.ty R.sz v n (flatG R l)) (hr : RdG R w b A m news) (he : Env N F a) (hd : o.dst = some k) (hk : Nat.blt k N = true) (hw : Region.wanted o (yielded ops a.tmps) = true)
    (ho : o.op = .call { callee := .builtin .append, args := #[s, x], argTypes := #[R.sl, R.sl] }) (hs : evO F s = some v)
    (hx : evO F x = some (.slice A m c)) (hnm : n + m ≤ 100000000) (hbase : base ≤ w.heap.size)
    (next : ∀ v' w' a', w'.ownsRow base R.ty R.sz v' (n + m) (flatG R (l ++ news)) → w.grownBy w' v.ownBlock → (v'.ownBlock = v.ownBlock ∨ v'.ownBlock = some w.heap.size) → Env N ((k, v') :: F) a' → wpList Tryd.prog ops Q rest a' w') : wpList Tryd.prog ops Q (o :: rest) a w := by
  obtain ⟨v', w', hrun, h2, h3, h4⟩ := run_appendO w base o.type v n l hown b A m c news hr hnm hbase
  refine wpList_step fun K hK => ?_
  rw [if_pos hw]
  unfold Oper.wp execOp
  simp only [ho, resolve, invoke, builtin, Sem.run_bind, Sem.run_pure, Result.andThen_ok, List.map_toArray, List.map_cons, List.map_nil, he.op hs, he.op hx, hrun]
  exact hK _ _ (by rw [hd]; exact next _ _ _ h2 h3 h4 (he.put hk v'))
/-- A slice made empty, for so many. -/
theorem lMk {x : Operand} {base c : Nat} (he : Env N F a) (hd : o.dst = some k) (hk : Nat.blt k N = true) (hw : Region.wanted o (yielded ops a.tmps) = true)
    (ho : o.op = .makeSlice R.sl (.const (.int .i64 0)) x) (hx : evO F x = some (.int .i64 c)) (hc : c ≤ 100000000) (hbase : base ≤ w.heap.size)
    (next : ∀ w' a', w'.ownsRow base R.ty R.sz (.slice (some ⟨w.heap.size, 0, none⟩) 0 c) 0 (flatG R []) → w.grownBy w' none → Env N ((k, .slice (some ⟨w.heap.size, 0, none⟩) 0 c) :: F) a' → wpList Tryd.prog ops Q rest a' w') : wpList Tryd.prog ops Q (o :: rest) a w := by
  obtain ⟨i, hi, hz, hsize, hby⟩ := info_parts R.info
  have hmb : i.bytes * c ≤ 281474976710656 := by
    rw [hby]
    exact Nat.le_trans (Nat.mul_le_mul R.small hc) (by decide)
  obtain ⟨w', hrun, h2, h3⟩ := run_make_own (P := Tryd.prog) w base R.sl R.ty i _ R.sz R.und hi hz hsize .i64 .i64 c hmb (by unfold maxLen; omega) hbase
  refine wpList_step fun K hK => ?_
  rw [if_pos hw]
  have ha : a.eval (.const (.int .i64 0)) = .int .i64 0 := rfl
  unfold Oper.wp execOp
  simp only [ho, ha, he.op hx, Sem.run_bind, hrun, Result.andThen_ok, Sem.run_pure]
  exact hK _ _ (by rw [hd]; exact next _ _ h2 h3 (he.put hk _))
end
theorem Hp.own {w0 w w' : World} {H : List Bk} {S : Nat → Prop} (h : Hp w0 H w) (hf : Fr S w w') (hS : ∀ k, S k → w0.heap.size ≤ k) (hne : ∀ b ∈ H, ¬ S b.p) : Hp w0 H w' :=
  ⟨Fr.trans h.new hf (fun i hi hs => by have := hS i hs; omega), h.nd, fun b hb => ⟨(h.bl b hb).1, (h.bl b hb).2.fr hf (hne b hb)⟩⟩
/-- Cells as records. -/
def rC : Rec Ce where
  sz := 16
  ty := 30
  sl := 42
  ls := Ce.ls
  z := zeroCe.v
  by_ := 64
  len _ := rfl
  pos := by decide
  one x u hu := one_cs x u (by simpa [Ce.ls, Ce.cs] using hu)
  info := by kernel_rfl
  zc := rfl
  small := by decide
  und := Tryd.underlying42
  row := ⟨_, undC, rfl⟩
theorem rdc_of {w : World} {b n : Nat} {A : Option Addr} {l : List Ce} (h : RdG rC w b A n l) : RdC w b A n l := h
theorem of_rdc {w : World} {b n : Nat} {A : Option Addr} {l : List Ce} (h : RdC w b A n l) : RdG rC w b A n l := h
section
variable {ρ : Operand → Value} {o : Oper} {x : Operand}
theorem rn_isnil {A : Option Addr} {n c : Nat} {b : Bool} (h : o.op = .binOp .eql 43 x (.const (.slice none 0 0)) 43) (hx : ρ x = .slice A n c) (hc : ∀ v, ρ (.const v) = v) (hb : A.isNone = b) (w : World) : (execOp ρ o).run Tryd.prog w = .ok (.value (.bool b)) w := by
  subst hb
  unfold execOp
  simp only [h, hx, hc]
  cases A <;> kernel_rfl
end
end Go.Proofs.YtaiijndldngnkaaDoor
namespace Go.Proofs.YtaiijndldngnkaaDoor
open Go.RowKit

def prevW (l : List Rn) (k : Nat) : Option Wd := if k = 0 then none else (l[k - 1]?).map (·.w)
theorem prevW_succ {l : List Rn} {k : Nat} {c : Rn} (h : l[k]? = some c) : prevW l (k + 1) = some c.w := by simp [prevW, h]
theorem step_lo {n : Int} {p : Option Wd} {r : Rn} (h : r.n < 1) : stepR n p r = none := by unfold stepR; rw [if_pos (.inl h)]
theorem step_hi {n : Int} {p : Option Wd} {r : Rn} (h : 100000 - n < r.n) : stepR n p r = none := by unfold stepR; rw [if_pos (.inr (.inl h))]
theorem step_same {n : Int} {p : Option Wd} {r : Rn} (h : p = some r.w) : stepR n p r = none := by unfold stepR; rw [if_pos (.inr (.inr (.inl h)))]
theorem step_bad {n : Int} {p : Option Wd} {r : Rn} (h : goodB r.w = false) : stepR n p r = none := by unfold stepR; rw [if_pos (.inr (.inr (.inr h)))]
theorem drop_some {l : List Rn} {k : Nat} {c : Rn} (h : l[k]? = some c) : l.drop k = c :: l.drop (k + 1) := by
  obtain ⟨hk, e⟩ := List.getElem?_eq_some_iff.1 h
  rw [List.drop_eq_getElem_cons hk, e]
theorem cnt_stop {l : List Rn} {k : Nat} {c : Rn} {m : Int} (h : cntR 0 none l = cntR m (prevW l k) (l.drop k)) (hc : l[k]? = some c) (hs : stepR m (prevW l k) c = none) : goodR l = false ∧ countR l = 0 := by
  rw [drop_some hc, cntR_cons_none hs] at h
  exact ⟨by rw [goodR, h]; rfl, by rw [countR, h]; rfl⟩
theorem cnt_go {l : List Rn} {k : Nat} {c : Rn} {m j : Int} (h : cntR 0 none l = cntR m (prevW l k) (l.drop k)) (hc : l[k]? = some c) (hs : stepR m (prevW l k) c = some j) : cntR 0 none l = cntR j (prevW l (k + 1)) (l.drop (k + 1)) := by
  rw [h, drop_some hc, cntR_cons_some hs, prevW_succ hc]

set_option linter.unusedSimpArgs false in
set_option maxRecDepth 100000 in
set_option maxHeartbeats 1600000 in
theorem counted_any (l : List Rn) (n b cap : Nat) (A : Option Addr) (w : World) (hr : RdR w b A n l) (hok : ∀ r ∈ l, r.Ok) (hn : n ≤ 1000000) (hT : Tab w) :
    Calls Tryd.prog 35 #[.slice A n cap] w fun e w' => e = .returned (.tuple #[.int .i64 (countR l), .bool (goodR l)]) ∧ New w w' := by
  have hl := hr.1
  refine calls_args (vl := [Value.slice A n cap]) 53 Tryd.func35 rfl Tryd.ntmps35 (by kernel_rfl) (fun a he => ?_)
  have he0 : Env 53 [(0, Value.slice A n cap)] a := he
  clear he
  have hH := Hp.start w
  refine wp_seq ?_
  refine wp_region_lit ?_
  refine lV (Value.int .i64 0) he0 rfl rfl (wanted_plain rfl _) (rn_asg rfl (he0.op rfl) w) ?_
  intro a1 he1
  clear he0 a
  refine lV (Value.bool false) he1 rfl rfl (wanted_plain rfl _) (rn_asg rfl (he1.op rfl) w) ?_
  intro a2 he2
  clear he1 a1
  refine wpList_nil ?_
  refine then_ok ?_
  refine wp_seq ?_
  refine wp_region_lit ?_
  refine lV (Value.int .i64 0) he2 rfl rfl (wanted_plain rfl _) (rn_asg rfl (he2.op rfl) w) ?_
  intro a3 he3
  clear he2 a2
  refine wpList_nil ?_
  refine then_ok ?_
  refine wp_seq ?_
  refine wp_seq ?_
  refine wp_region_lit ?_
  refine lV (Value.slice A n cap) he3 rfl rfl (wanted_plain rfl _) (rn_mv rfl (he3.op rfl) w) ?_
  intro a4 he4
  clear he3 a3
  refine lV (Value.int .i64 (n : Nat)) he4 rfl rfl (wanted_plain rfl _) (rn_lenR rfl (he4.op rfl) w) ?_
  intro a5 he5
  clear he4 a4
  refine lV (Value.int .i64 0) he5 rfl rfl (wanted_plain rfl _) (rn_mv rfl (he5.op rfl) w) ?_
  intro a6 he6
  clear he5 a5
  refine wpList_nil ?_
  refine then_ok ?_
  refine wp_block ?_
  refine loop_nat (fun q a w' => ∃ (k : Nat) (m : Int), q = n - k ∧ k ≤ n ∧ 0 ≤ m ∧ m ≤ 100000 ∧ cntR 0 none l = cntR m (prevW l k) (l.drop k) ∧ Env 53 [(0, Value.slice A n cap), (4, Value.int .i64 m), (9, Value.slice A n cap), (10, Value.int .i64 (n : Nat)), (11, Value.int .i64 (k : Int))] a ∧ Hp w [] w') n ⟨0, 0, by omega, by omega, by omega, by omega, rfl, he6.mem ⟨rfl, rfl, rfl, rfl, rfl, trivial⟩, hH⟩ ?_
  clear he6 hH
  rintro q a7 w7 ⟨k, m, rfl, hk, m0, m1, hcn, he7, hH7⟩
  as_aux_lemma =>
    by_cases hkn : k < n
    · skip
      refine wp_seq ?_
      refine wp_region_lit ?_
      refine lV (Value.bool true) he7 rfl rfl (wanted_plain rfl _) (rn_lss rfl (he7.op rfl) (he7.op rfl) (decide_eq_true (by omega)) w7) ?_
      intro a8 he8
      clear he7 a7
      refine wpList_nil ?_
      refine then_ok ?_
      refine wp_seq ?_
      refine wp_cond_true (he8.op rfl) ?_
      refine wp_skip ?_
      refine then_ok ?_
      obtain ⟨o0, rfl⟩ := hr.base (by omega)
      obtain ⟨c, hc⟩ : ∃ c, l[k]? = some c := ⟨_, List.getElem?_eq_getElem (by have := hr.1; omega)⟩
      have hco : c.Ok := hok c (List.mem_of_getElem? hc)
      refine wp_seq ?_
      refine wp_block ?_
      refine wp_seq ?_
      refine wp_region_lit ?_
      refine lV (Value.int .i64 (k : Int)) he8 rfl rfl (wanted_plain rfl _) (rn_mv rfl (he8.op rfl) w7) ?_
      intro a9 he9
      clear he8 a8
      refine lV (Value.pointer (some ⟨b, o0 + k * 4, none⟩)) he9 rfl rfl (wanted_plain rfl _) (rn_idxR (i := k) rfl (he9.op rfl) (he9.op rfl) hkn (by rw [addr_add]) w7) ?_
      intro a10 he10
      clear he9 a9
      refine lV (Rn.v c) he10 rfl rfl (wanted_plain rfl _) (rn_sR (i := k) rfl (he10.op rfl) (hr.new hH7.new) rfl hc) ?_
      intro a11 he11
      clear he10 a10
      refine lNew (fun p => .pointer (some ⟨p, 0, none⟩)) he11 hH7 rfl rfl (wanted_plain rfl _) (rn_allocR rfl w7) ?_
      intro p12 w12 a13 hn hH12 he13
      clear he11 a11 hH7 hn
      refine lV (Value.int .i64 (k : Int)) he13 rfl rfl (wanted_plain rfl _) (rn_asg rfl (he13.op rfl) w12) ?_
      intro a14 he14
      clear he13 a13
      refine lSetV 0 (Rn.cs c) (cs := (Rn.cs c)) he14 hH12 rfl (wanted_plain rfl _) rfl rfl rfl rfl rfl (by kernel_rfl) (by kernel_rfl) (by kernel_rfl) rfl ?_
      intro w15 a16 hH15 he16
      replace hH15 : Hp w [⟨p12, 67, (Rn.cs c)⟩] w15 := hH15
      clear he14 a14 hH12
      refine wpList_nil ?_
      refine then_ok ?_
      have he17 : Env 53 [(5, Value.int .i64 (k : Int)), (6, Value.pointer (some ⟨p12, 0, none⟩)), (0, Value.slice (some ⟨b, o0, none⟩) n cap), (4, Value.int .i64 m), (9, Value.slice (some ⟨b, o0, none⟩) n cap), (10, Value.int .i64 (n : Nat)), (11, Value.int .i64 (k : Int))] a16 := he16.mem ⟨rfl, rfl, rfl, rfl, rfl, rfl, rfl, trivial⟩
      clear he16
      as_aux_lemma =>
        by_cases h1 : c.n < 1
        · skip
          refine wp_seq ?_
          refine wp_seq ?_
          refine wp_region_lit ?_
          refine lV (Value.pointer (some ⟨p12, 0, none⟩)) he17 rfl rfl (wanted_plain rfl _) (rn_faR0 rfl (he17.op rfl) rfl w15) ?_
          intro a18 he18
          clear he17 a16
          refine lV (Value.int .i64 c.n) he18 rfl rfl (wanted_plain rfl _) (rn_ld1 rfl (he18.op rfl) Tryd.underlying3 (hH15.at (i := 0) rfl) rfl) ?_
          intro a19 he19
          clear he18 a18
          refine lV (Value.bool true) he19 rfl rfl (wanted_plain rfl _) (rn_lss rfl (he19.op rfl) (he19.op rfl) (decide_eq_true (by omega)) w15) ?_
          intro a20 he20
          clear he19 a19
          refine lV (Value.bool true) he20 rfl rfl (wanted_plain rfl _) (rn_mv rfl (he20.op rfl) w15) ?_
          intro a21 he21
          clear he20 a20
          refine lSkip he21 rfl rfl (he21.wantNot rfl rfl rfl rfl rfl rfl) ?_
          intro a22 he22
          clear he21 a21
          refine lSkip he22 rfl rfl (he22.wantNot rfl rfl rfl rfl rfl rfl) ?_
          intro a23 he23
          clear he22 a22
          refine lSkip he23 rfl rfl (he23.wantNot rfl rfl rfl rfl rfl rfl) ?_
          intro a24 he24
          clear he23 a23
          refine lSkip he24 rfl rfl (he24.wantNot rfl rfl rfl rfl rfl rfl) ?_
          intro a25 he25
          clear he24 a24
          refine lSkip he25 rfl rfl (he25.wantNot rfl rfl rfl rfl rfl rfl) ?_
          intro a26 he26
          clear he25 a25
          refine lV (Value.bool true) he26 rfl rfl (wanted_plain rfl _) (rn_pk rfl (he26.op rfl) (he26.op rfl) w15) ?_
          intro a27 he27
          clear he26 a26
          refine wpList_nil ?_
          refine then_ok ?_
          refine wp_cond_true (he27.op rfl) ?_
          refine wp_seq ?_
          refine wp_region_lit ?_
          refine lV (Value.int .i64 0) he27 rfl rfl (wanted_plain rfl _) (rn_asg rfl (he27.op rfl) w15) ?_
          intro a28 he28
          clear he27 a27
          refine lV (Value.bool false) he28 rfl rfl (wanted_plain rfl _) (rn_asg rfl (he28.op rfl) w15) ?_
          intro a29 he29
          clear he28 a28
          refine wpList_nil ?_
          refine then_ok ?_
          obtain ⟨e1, e2⟩ := cnt_stop hcn hc (step_lo h1)
          refine wp_ret ?_
          try simp only [Exit.then, Exit.inBlock]
          exact ret_tt rfl he29 rfl rfl ⟨by rw [e1, e2], hH15.new⟩
        by_cases h2 : 100000 - m < c.n
        · skip
          refine wp_seq ?_
          refine wp_seq ?_
          refine wp_region_lit ?_
          refine lV (Value.pointer (some ⟨p12, 0, none⟩)) he17 rfl rfl (wanted_plain rfl _) (rn_faR0 rfl (he17.op rfl) rfl w15) ?_
          intro a30 he30
          clear he17 a16
          refine lV (Value.int .i64 c.n) he30 rfl rfl (wanted_plain rfl _) (rn_ld1 rfl (he30.op rfl) Tryd.underlying3 (hH15.at (i := 0) rfl) rfl) ?_
          intro a31 he31
          clear he30 a30
          refine lV (Value.bool false) he31 rfl rfl (wanted_plain rfl _) (rn_lss rfl (he31.op rfl) (he31.op rfl) (decide_eq_false (by omega)) w15) ?_
          intro a32 he32
          clear he31 a31
          refine lV (Value.bool false) he32 rfl rfl (wanted_plain rfl _) (rn_mv rfl (he32.op rfl) w15) ?_
          intro a33 he33
          clear he32 a32
          refine lV (Value.pointer (some ⟨p12, 0, none⟩)) he33 rfl rfl (he33.want rfl rfl rfl rfl rfl) (rn_faR0 rfl (he33.op rfl) rfl w15) ?_
          intro a34 he34
          clear he33 a33
          refine lV (Value.int .i64 c.n) he34 rfl rfl (he34.want rfl rfl rfl rfl rfl) (rn_ld1 rfl (he34.op rfl) Tryd.underlying3 (hH15.at (i := 0) rfl) rfl) ?_
          intro a35 he35
          clear he34 a34
          refine lV (Value.int .i64 m) he35 rfl rfl (he35.want rfl rfl rfl rfl rfl) (rn_mv rfl (he35.op rfl) w15) ?_
          intro a36 he36
          clear he35 a35
          refine lV (Value.int .i64 (100000 - m)) he36 rfl rfl (he36.want rfl rfl rfl rfl rfl) (rn_subI rfl (he36.op rfl) (he36.op rfl) (by rw [IntWalk.i64_in _ ⟨by omega, by omega⟩]) w15) ?_
          intro a37 he37
          clear he36 a36
          refine lV (Value.bool true) he37 rfl rfl (he37.want rfl rfl rfl rfl rfl) (rn_gtr rfl (he37.op rfl) (he37.op rfl) (decide_eq_true (by omega)) w15) ?_
          intro a38 he38
          clear he37 a37
          refine lV (Value.bool true) he38 rfl rfl (wanted_plain rfl _) (rn_pk0 rfl (he38.op rfl) (he38.op rfl) w15) ?_
          intro a39 he39
          clear he38 a38
          refine wpList_nil ?_
          refine then_ok ?_
          refine wp_cond_true (he39.op rfl) ?_
          refine wp_seq ?_
          refine wp_region_lit ?_
          refine lV (Value.int .i64 0) he39 rfl rfl (wanted_plain rfl _) (rn_asg rfl (he39.op rfl) w15) ?_
          intro a40 he40
          clear he39 a39
          refine lV (Value.bool false) he40 rfl rfl (wanted_plain rfl _) (rn_asg rfl (he40.op rfl) w15) ?_
          intro a41 he41
          clear he40 a40
          refine wpList_nil ?_
          refine then_ok ?_
          obtain ⟨e1, e2⟩ := cnt_stop hcn hc (step_hi h2)
          refine wp_ret ?_
          try simp only [Exit.then, Exit.inBlock]
          exact ret_tt rfl he41 rfl rfl ⟨by rw [e1, e2], hH15.new⟩
        refine wp_seq ?_
        refine wp_seq ?_
        refine wp_region_lit ?_
        refine lV (Value.pointer (some ⟨p12, 0, none⟩)) he17 rfl rfl (wanted_plain rfl _) (rn_faR0 rfl (he17.op rfl) rfl w15) ?_
        intro a42 he42
        clear he17 a16
        refine lV (Value.int .i64 c.n) he42 rfl rfl (wanted_plain rfl _) (rn_ld1 rfl (he42.op rfl) Tryd.underlying3 (hH15.at (i := 0) rfl) rfl) ?_
        intro a43 he43
        clear he42 a42
        refine lV (Value.bool false) he43 rfl rfl (wanted_plain rfl _) (rn_lss rfl (he43.op rfl) (he43.op rfl) (decide_eq_false (by omega)) w15) ?_
        intro a44 he44
        clear he43 a43
        refine lV (Value.bool false) he44 rfl rfl (wanted_plain rfl _) (rn_mv rfl (he44.op rfl) w15) ?_
        intro a45 he45
        clear he44 a44
        refine lV (Value.pointer (some ⟨p12, 0, none⟩)) he45 rfl rfl (he45.want rfl rfl rfl rfl rfl) (rn_faR0 rfl (he45.op rfl) rfl w15) ?_
        intro a46 he46
        clear he45 a45
        refine lV (Value.int .i64 c.n) he46 rfl rfl (he46.want rfl rfl rfl rfl rfl) (rn_ld1 rfl (he46.op rfl) Tryd.underlying3 (hH15.at (i := 0) rfl) rfl) ?_
        intro a47 he47
        clear he46 a46
        refine lV (Value.int .i64 m) he47 rfl rfl (he47.want rfl rfl rfl rfl rfl) (rn_mv rfl (he47.op rfl) w15) ?_
        intro a48 he48
        clear he47 a47
        refine lV (Value.int .i64 (100000 - m)) he48 rfl rfl (he48.want rfl rfl rfl rfl rfl) (rn_subI rfl (he48.op rfl) (he48.op rfl) (by rw [IntWalk.i64_in _ ⟨by omega, by omega⟩]) w15) ?_
        intro a49 he49
        clear he48 a48
        refine lV (Value.bool false) he49 rfl rfl (he49.want rfl rfl rfl rfl rfl) (rn_gtr rfl (he49.op rfl) (he49.op rfl) (decide_eq_false (by omega)) w15) ?_
        intro a50 he50
        clear he49 a49
        refine lV (Value.bool false) he50 rfl rfl (wanted_plain rfl _) (rn_pk0 rfl (he50.op rfl) (he50.op rfl) w15) ?_
        intro a51 he51
        clear he50 a50
        refine wpList_nil ?_
        refine then_ok ?_
        refine wp_cond_false (he51.op rfl) ?_
        refine wp_skip ?_
        refine then_ok ?_
        have he52 : Env 53 [(5, Value.int .i64 (k : Int)), (6, Value.pointer (some ⟨p12, 0, none⟩)), (0, Value.slice (some ⟨b, o0, none⟩) n cap), (4, Value.int .i64 m), (9, Value.slice (some ⟨b, o0, none⟩) n cap), (10, Value.int .i64 (n : Nat)), (11, Value.int .i64 (k : Int))] a51 := he51.mem ⟨rfl, rfl, rfl, rfl, rfl, rfl, rfl, trivial⟩
        clear he51
        as_aux_lemma =>
          have hpw : prevW l k = some c.w ∨ prevW l k ≠ some c.w := Classical.em _
          by_cases hz : k = 0
          · skip
            refine wp_seq ?_
            refine wp_seq ?_
            refine wp_region_held_drew (S := Hp w [⟨p12, 67, (Rn.cs c)⟩]) (by kernel_rfl) (hH15.drew) (fun _ => ?_)
            have hn : New w15 (World.drew w15) := (Fr.refl _ _).drew
            clear hn
            have hH53 := hH15.drew
            clear hH15
            generalize World.drew w15 = w53 at *
            refine hV (fuel := 12) (i := 0) (Value.int .i64 (k : Int)) he52 rfl rfl rfl (by kernel_rfl) (by kernel_rfl) (by kernel_rfl) (fun _ _ _ h => h) (wanted_plain rfl _) (fun w' _ => rn_mv rfl (he52.op rfl) w') hH53 ?_
            intro a54 he54
            clear he52 a51
            refine hV (fuel := 11) (i := 1) (Value.bool false) he54 rfl rfl rfl (by kernel_rfl) (by kernel_rfl) (by kernel_rfl) (fun _ _ _ h => h) (wanted_plain rfl _) (fun w' _ => rn_gtr rfl (he54.op rfl) (he54.op rfl) (decide_eq_false (by omega)) w') hH53 ?_
            intro a55 he55
            clear he54 a54
            refine hV (fuel := 10) (i := 2) (Value.bool false) he55 rfl rfl rfl (by kernel_rfl) (by kernel_rfl) (by kernel_rfl) (fun _ _ _ h => h) (wanted_plain rfl _) (fun w' _ => rn_mv rfl (he55.op rfl) w') hH53 ?_
            intro a56 he56
            clear he55 a55
            refine hSkip (fuel := 9) (i := 3) he56 rfl rfl rfl (by kernel_rfl) (by kernel_rfl) (by kernel_rfl) (fun _ _ _ h => h) (he56.wantNot rfl rfl rfl rfl rfl rfl) hH53 ?_
            intro a57 he57
            clear he56 a56
            refine hSkip (fuel := 8) (i := 4) he57 rfl rfl rfl (by kernel_rfl) (by kernel_rfl) (by kernel_rfl) (fun _ _ _ h => h) (he57.wantNot rfl rfl rfl rfl rfl rfl) hH53 ?_
            intro a58 he58
            clear he57 a57
            refine hSkip (fuel := 7) (i := 5) he58 rfl rfl rfl (by kernel_rfl) (by kernel_rfl) (by kernel_rfl) (fun _ _ _ h => h) (he58.wantNot rfl rfl rfl rfl rfl rfl) hH53 ?_
            intro a59 he59
            clear he58 a58
            refine hSkip (fuel := 6) (i := 6) he59 rfl rfl rfl (by kernel_rfl) (by kernel_rfl) (by kernel_rfl) (fun _ _ _ h => h) (he59.wantNot rfl rfl rfl rfl rfl rfl) hH53 ?_
            intro a60 he60
            clear he59 a59
            refine hSkip (fuel := 5) (i := 7) he60 rfl rfl rfl (by kernel_rfl) (by kernel_rfl) (by kernel_rfl) (fun _ _ _ h => h) (he60.wantNot rfl rfl rfl rfl rfl rfl) hH53 ?_
            intro a61 he61
            clear he60 a60
            refine hSkip (fuel := 4) (i := 8) he61 rfl rfl rfl (by kernel_rfl) (by kernel_rfl) (by kernel_rfl) (fun _ _ _ h => h) (he61.wantNot rfl rfl rfl rfl rfl rfl) hH53 ?_
            intro a62 he62
            clear he61 a61
            refine hSkip (fuel := 3) (i := 9) he62 rfl rfl rfl (by kernel_rfl) (by kernel_rfl) (by kernel_rfl) (fun _ _ _ h => h) (he62.wantNot rfl rfl rfl rfl rfl rfl) hH53 ?_
            intro a63 he63
            clear he62 a62
            refine hSkip (fuel := 2) (i := 10) he63 rfl rfl rfl (by kernel_rfl) (by kernel_rfl) (by kernel_rfl) (fun _ _ _ h => h) (he63.wantNot rfl rfl rfl rfl rfl rfl) hH53 ?_
            intro a64 he64
            clear he63 a63
            refine hSkip (fuel := 1) (i := 11) he64 rfl rfl rfl (by kernel_rfl) (by kernel_rfl) (by kernel_rfl) (fun _ _ _ h => h) (he64.wantNot rfl rfl rfl rfl rfl rfl) hH53 ?_
            intro a65 he65
            clear he64 a64
            refine hV (fuel := 0) (i := 12) (Value.bool false) he65 rfl rfl rfl (by kernel_rfl) (by kernel_rfl) (by kernel_rfl) (fun _ _ _ h => h) (wanted_plain rfl _) (fun w' _ => rn_pk0 rfl (he65.op rfl) (he65.op rfl) w') hH53 ?_
            intro a66 he66
            clear he65 a65
            refine wpAnyH_done (by kernel_rfl) ?_ _
            refine then_ok ?_
            refine wp_cond_false (he66.op rfl) ?_
            refine wp_skip ?_
            refine then_ok ?_
            have hpn : prevW l k ≠ some c.w := by rw [prevW, if_pos hz]; simp
            have he67 : Env 53 [(5, Value.int .i64 (k : Int)), (6, Value.pointer (some ⟨p12, 0, none⟩)), (0, Value.slice (some ⟨b, o0, none⟩) n cap), (4, Value.int .i64 m), (9, Value.slice (some ⟨b, o0, none⟩) n cap), (10, Value.int .i64 (n : Nat)), (11, Value.int .i64 (k : Int))] a66 := he66.mem ⟨rfl, rfl, rfl, rfl, rfl, rfl, rfl, trivial⟩
            clear he66
            as_aux_lemma =>
              cases hg : goodB c.w with
              | false =>
                refine wp_seq ?_
                refine wp_seq ?_
                refine wp_region_lit ?_
                refine lV (Value.pointer (some ⟨p12, 1, none⟩)) he67 rfl rfl (wanted_plain rfl _) (rn_faR1 rfl (he67.op rfl) rfl w53) ?_
                intro a68 he68
                clear he67 a66
                refine lV (Wd.v c.w) he68 rfl rfl (wanted_plain rfl _) (rn_ldp [Value.int .u64 c.w.a, Value.int .u64 c.w.b, Value.int .u64 c.w.c] rfl (he68.op rfl) Tryd.underlying34 rfl infoW3 (hH53.at (i := 0) rfl) rfl) ?_
                intro a69 he69
                clear he68 a68
                refine lC he69 rfl rfl Tryd.func33 (by kernel_rfl) rfl rfl (wanted_plain rfl _) rfl (PCell_no c.w hco.w hg w53 (hT.new hH53.new)) ?_
                intro w70 a71 hn he71
                have hH70 := hH53.call hn
                clear he69 a69 hH53 hn
                refine lV (Value.tuple #[Ce.v zeroCe, Value.int .i64 12]) he71 rfl rfl (wanted_plain rfl _) (rn_mv rfl (he71.op rfl) w70) ?_
                intro a72 he72
                clear he71 a71
                refine lV (Ce.v zeroCe) he72 rfl rfl (wanted_plain rfl _) (rn_ext rfl (he72.op rfl) rfl w70) ?_
                intro a73 he73
                clear he72 a72
                refine lV (Value.int .i64 12) he73 rfl rfl (wanted_plain rfl _) (rn_ext rfl (he73.op rfl) rfl w70) ?_
                intro a74 he74
                clear he73 a73
                refine lNew (fun p => .pointer (some ⟨p, 0, none⟩)) he74 hH70 rfl rfl (wanted_plain rfl _) (rn_alloc rfl w70) ?_
                intro p75 w75 a76 hn hH75 he76
                clear he74 a74 hH70 hn
                refine lSetV 0 (Ce.cs zeroCe) (cs := (Ce.cs zeroCe)) he76 hH75 rfl (wanted_plain rfl _) rfl rfl rfl rfl rfl (by kernel_rfl) (by kernel_rfl) (by kernel_rfl) rfl ?_
                intro w77 a78 hH77 he78
                replace hH77 : Hp w [⟨p75, 30, (Ce.cs zeroCe)⟩, ⟨p12, 67, (Rn.cs c)⟩] w77 := hH77
                clear he76 a76 hH75
                refine lV (Value.int .i64 12) he78 rfl rfl (wanted_plain rfl _) (rn_asg rfl (he78.op rfl) w77) ?_
                intro a79 he79
                clear he78 a78
                refine wpList_nil ?_
                refine then_ok ?_
                refine wp_seq ?_
                refine wp_region_lit ?_
                refine lV (Value.int .i64 12) he79 rfl rfl (wanted_plain rfl _) (rn_mv rfl (he79.op rfl) w77) ?_
                intro a80 he80
                clear he79 a79
                refine lV (Value.bool true) he80 rfl rfl (wanted_plain rfl _) (rn_neE rfl (he80.op rfl) (he80.op rfl) (by decide) w77) ?_
                intro a81 he81
                clear he80 a80
                refine wpList_nil ?_
                refine then_ok ?_
                refine wp_cond_true (he81.op rfl) ?_
                refine wp_seq ?_
                refine wp_region_lit ?_
                refine lV (Value.int .i64 0) he81 rfl rfl (wanted_plain rfl _) (rn_asg rfl (he81.op rfl) w77) ?_
                intro a82 he82
                clear he81 a81
                refine lV (Value.bool false) he82 rfl rfl (wanted_plain rfl _) (rn_asg rfl (he82.op rfl) w77) ?_
                intro a83 he83
                clear he82 a82
                refine wpList_nil ?_
                refine then_ok ?_
                obtain ⟨e1, e2⟩ := cnt_stop hcn hc (step_bad hg)
                refine wp_ret ?_
                try simp only [Exit.then, Exit.inBlock]
                exact ret_tt rfl he83 rfl rfl ⟨by rw [e1, e2], hH77.new⟩
              | true =>
                refine wp_seq ?_
                refine wp_seq ?_
                refine wp_region_lit ?_
                refine lV (Value.pointer (some ⟨p12, 1, none⟩)) he67 rfl rfl (wanted_plain rfl _) (rn_faR1 rfl (he67.op rfl) rfl w53) ?_
                intro a84 he84
                clear he67 a66
                refine lV (Wd.v c.w) he84 rfl rfl (wanted_plain rfl _) (rn_ldp [Value.int .u64 c.w.a, Value.int .u64 c.w.b, Value.int .u64 c.w.c] rfl (he84.op rfl) Tryd.underlying34 rfl infoW3 (hH53.at (i := 0) rfl) rfl) ?_
                intro a85 he85
                clear he84 a84
                refine lC he85 rfl rfl Tryd.func33 (by kernel_rfl) rfl rfl (wanted_plain rfl _) rfl (PCell_yes c.w hco.w hg w53 (hT.new hH53.new)) ?_
                intro w86 a87 hn he87
                have hH86 := hH53.call hn
                clear he85 a85 hH53 hn
                refine lV (Value.tuple #[Ce.v (cellI c.w), Value.int .i64 0]) he87 rfl rfl (wanted_plain rfl _) (rn_mv rfl (he87.op rfl) w86) ?_
                intro a88 he88
                clear he87 a87
                refine lV (Ce.v (cellI c.w)) he88 rfl rfl (wanted_plain rfl _) (rn_ext rfl (he88.op rfl) rfl w86) ?_
                intro a89 he89
                clear he88 a88
                refine lV (Value.int .i64 0) he89 rfl rfl (wanted_plain rfl _) (rn_ext rfl (he89.op rfl) rfl w86) ?_
                intro a90 he90
                clear he89 a89
                refine lNew (fun p => .pointer (some ⟨p, 0, none⟩)) he90 hH86 rfl rfl (wanted_plain rfl _) (rn_alloc rfl w86) ?_
                intro p91 w91 a92 hn hH91 he92
                clear he90 a90 hH86 hn
                refine lSetV 0 (Ce.cs (cellI c.w)) (cs := (Ce.cs (cellI c.w))) he92 hH91 rfl (wanted_plain rfl _) rfl rfl rfl rfl rfl (by kernel_rfl) (by kernel_rfl) (by kernel_rfl) rfl ?_
                intro w93 a94 hH93 he94
                replace hH93 : Hp w [⟨p91, 30, (Ce.cs (cellI c.w))⟩, ⟨p12, 67, (Rn.cs c)⟩] w93 := hH93
                clear he92 a92 hH91
                refine lV (Value.int .i64 0) he94 rfl rfl (wanted_plain rfl _) (rn_asg rfl (he94.op rfl) w93) ?_
                intro a95 he95
                clear he94 a94
                refine wpList_nil ?_
                refine then_ok ?_
                refine wp_seq ?_
                refine wp_region_lit ?_
                refine lV (Value.int .i64 0) he95 rfl rfl (wanted_plain rfl _) (rn_mv rfl (he95.op rfl) w93) ?_
                intro a96 he96
                clear he95 a95
                refine lV (Value.bool false) he96 rfl rfl (wanted_plain rfl _) (rn_neE rfl (he96.op rfl) (he96.op rfl) (by decide) w93) ?_
                intro a97 he97
                clear he96 a96
                refine wpList_nil ?_
                refine then_ok ?_
                refine wp_cond_false (he97.op rfl) ?_
                refine wp_skip ?_
                refine then_ok ?_
                refine wp_region_lit ?_
                have hs := stepR_ok (n := m) (p := prevW l k) (r := c) (by omega) (by omega) hpn hg
                refine lV (Value.int .i64 m) he97 rfl rfl (wanted_plain rfl _) (rn_mv rfl (he97.op rfl) w93) ?_
                intro a98 he98
                clear he97 a97
                refine lV (Value.pointer (some ⟨p12, 0, none⟩)) he98 rfl rfl (wanted_plain rfl _) (rn_faR0 rfl (he98.op rfl) rfl w93) ?_
                intro a99 he99
                clear he98 a98
                refine lV (Value.int .i64 c.n) he99 rfl rfl (wanted_plain rfl _) (rn_ld1 rfl (he99.op rfl) Tryd.underlying3 (hH93.at (i := 1) rfl) rfl) ?_
                intro a100 he100
                clear he99 a99
                refine lV (Value.int .i64 (m + c.n)) he100 rfl rfl (wanted_plain rfl _) (rn_add1 rfl (he100.op rfl) (he100.op rfl) (by rw [IntWalk.i64_in _ ⟨by omega, by omega⟩]) w93) ?_
                intro a101 he101
                clear he100 a100
                refine lV (Value.int .i64 (m + c.n)) he101 rfl rfl (wanted_plain rfl _) (rn_asg rfl (he101.op rfl) w93) ?_
                intro a102 he102
                clear he101 a101
                refine wpList_nil ?_
                refine block_ok ?_
                refine then_ok ?_
                refine wp_region_lit ?_
                refine lV (Value.int .i64 ((k + 1 : Nat) : Int)) he102 rfl rfl (wanted_plain rfl _) (rn_add1 rfl (he102.op rfl) (he102.op rfl) (by rw [IntWalk.i64_in _ ⟨by omega, by omega⟩]; rfl) w93) ?_
                intro a103 he103
                clear he102 a102
                refine lV (Value.int .i64 ((k + 1 : Nat) : Int)) he103 rfl rfl (wanted_plain rfl _) (rn_mv rfl (he103.op rfl) w93) ?_
                intro a104 he104
                clear he103 a103
                refine wpList_nil ?_
                refine then_ok ?_
                have hH105 := hH93.tail rfl
                clear hH93
                have hH106 := hH105.tail rfl
                clear hH105
                exact ⟨n - (k + 1), by omega, k + 1, m + c.n, rfl, by omega, by omega, by omega, cnt_go hcn hc hs, he104.mem ⟨rfl, rfl, rfl, rfl, rfl, trivial⟩, hH106⟩
          · skip
            obtain ⟨d, hd⟩ : ∃ d, l[k - 1]? = some d := ⟨_, List.getElem?_eq_getElem (by omega)⟩
            have hpe : prevW l k = some d.w := by rw [prevW, if_neg hz, hd]; rfl
            by_cases hs : c.w = d.w
            · skip
              refine wp_seq ?_
              refine wp_seq ?_
              refine wp_region_held_drew (S := Hp w [⟨p12, 67, (Rn.cs c)⟩]) (by kernel_rfl) (hH15.drew) (fun _ => ?_)
              have hn : New w15 (World.drew w15) := (Fr.refl _ _).drew
              clear hn
              have hH107 := hH15.drew
              clear hH15
              generalize World.drew w15 = w107 at *
              refine hV (fuel := 12) (i := 0) (Value.int .i64 (k : Int)) he52 rfl rfl rfl (by kernel_rfl) (by kernel_rfl) (by kernel_rfl) (fun _ _ _ h => h) (wanted_plain rfl _) (fun w' _ => rn_mv rfl (he52.op rfl) w') hH107 ?_
              intro a108 he108
              clear he52 a51
              refine hV (fuel := 11) (i := 1) (Value.bool true) he108 rfl rfl rfl (by kernel_rfl) (by kernel_rfl) (by kernel_rfl) (fun _ _ _ h => h) (wanted_plain rfl _) (fun w' _ => rn_gtr rfl (he108.op rfl) (he108.op rfl) (decide_eq_true (by omega)) w') hH107 ?_
              intro a109 he109
              clear he108 a108
              refine hV (fuel := 10) (i := 2) (Value.bool true) he109 rfl rfl rfl (by kernel_rfl) (by kernel_rfl) (by kernel_rfl) (fun _ _ _ h => h) (wanted_plain rfl _) (fun w' _ => rn_mv rfl (he109.op rfl) w') hH107 ?_
              intro a110 he110
              clear he109 a109
              refine hV (fuel := 9) (i := 3) (Value.pointer (some ⟨p12, 1, none⟩)) he110 rfl rfl rfl (by kernel_rfl) (by kernel_rfl) (by kernel_rfl) (fun _ _ _ h => h) (he110.want rfl rfl rfl rfl rfl) (fun w' _ => rn_faR1 rfl (he110.op rfl) rfl w') hH107 ?_
              intro a111 he111
              clear he110 a110
              refine hV (fuel := 8) (i := 4) (Wd.v c.w) he111 rfl rfl rfl (by kernel_rfl) (by kernel_rfl) (by kernel_rfl) (fun _ _ _ h => h) (he111.want rfl rfl rfl rfl rfl) (fun w' hw' => rn_ldp [Value.int .u64 c.w.a, Value.int .u64 c.w.b, Value.int .u64 c.w.c] rfl (he111.op rfl) Tryd.underlying34 rfl infoW3 (hw'.at (i := 0) rfl) rfl) hH107 ?_
              intro a112 he112
              clear he111 a111
              refine hV (fuel := 7) (i := 5) (Value.slice (some ⟨b, o0, none⟩) n cap) he112 rfl rfl rfl (by kernel_rfl) (by kernel_rfl) (by kernel_rfl) (fun _ _ _ h => h) (he112.want rfl rfl rfl rfl rfl) (fun w' _ => rn_mv rfl (he112.op rfl) w') hH107 ?_
              intro a113 he113
              clear he112 a112
              refine hV (fuel := 6) (i := 6) (Value.int .i64 (k : Int)) he113 rfl rfl rfl (by kernel_rfl) (by kernel_rfl) (by kernel_rfl) (fun _ _ _ h => h) (he113.want rfl rfl rfl rfl rfl) (fun w' _ => rn_mv rfl (he113.op rfl) w') hH107 ?_
              intro a114 he114
              clear he113 a113
              refine hV (fuel := 5) (i := 7) (Value.int .i64 ((k - 1 : Nat) : Int)) he114 rfl rfl rfl (by kernel_rfl) (by kernel_rfl) (by kernel_rfl) (fun _ _ _ h => h) (he114.want rfl rfl rfl rfl rfl) (fun w' _ => rn_subI rfl (he114.op rfl) (he114.op rfl) (by rw [IntWalk.i64_in _ ⟨by omega, by omega⟩]; omega) w') hH107 ?_
              intro a115 he115
              clear he114 a114
              refine hV (fuel := 4) (i := 8) (Value.pointer (some ⟨b, o0 + (k - 1) * 4, none⟩)) he115 rfl rfl rfl (by kernel_rfl) (by kernel_rfl) (by kernel_rfl) (fun _ _ _ h => h) (he115.want rfl rfl rfl rfl rfl) (fun w' _ => rn_idxR (i := (k - 1)) rfl (he115.op rfl) (he115.op rfl) (by omega) (by rw [addr_add]) w') hH107 ?_
              intro a116 he116
              clear he115 a115
              refine hV (fuel := 3) (i := 9) (Value.pointer (some ⟨b, o0 + (k - 1) * 4 + 1, none⟩)) he116 rfl rfl rfl (by kernel_rfl) (by kernel_rfl) (by kernel_rfl) (fun _ _ _ h => h) (he116.want rfl rfl rfl rfl rfl) (fun w' _ => rn_faR1 rfl (he116.op rfl) rfl w') hH107 ?_
              intro a117 he117
              clear he116 a116
              refine hV (fuel := 2) (i := 10) (Wd.v d.w) he117 rfl rfl rfl (by kernel_rfl) (by kernel_rfl) (by kernel_rfl) (fun _ _ _ h => h) (he117.want rfl rfl rfl rfl rfl) (fun w' hw' => rn_sRw (i := (k - 1)) rfl (he117.op rfl) (hr.new hw'.new) rfl hd) hH107 ?_
              intro a118 he118
              clear he117 a117
              refine hV (fuel := 1) (i := 11) (Value.bool true) he118 rfl rfl rfl (by kernel_rfl) (by kernel_rfl) (by kernel_rfl) (fun _ _ _ h => h) (he118.want rfl rfl rfl rfl rfl) (fun w' _ => rn_eqW rfl (he118.op rfl) (he118.op rfl) (decide_eq_true hs) w') hH107 ?_
              intro a119 he119
              clear he118 a118
              refine hV (fuel := 0) (i := 12) (Value.bool true) he119 rfl rfl rfl (by kernel_rfl) (by kernel_rfl) (by kernel_rfl) (fun _ _ _ h => h) (wanted_plain rfl _) (fun w' _ => rn_pk rfl (he119.op rfl) (he119.op rfl) w') hH107 ?_
              intro a120 he120
              clear he119 a119
              refine wpAnyH_done (by kernel_rfl) ?_ _
              refine then_ok ?_
              refine wp_cond_true (he120.op rfl) ?_
              refine wp_seq ?_
              refine wp_region_lit ?_
              refine lV (Value.int .i64 0) he120 rfl rfl (wanted_plain rfl _) (rn_asg rfl (he120.op rfl) w107) ?_
              intro a121 he121
              clear he120 a120
              refine lV (Value.bool false) he121 rfl rfl (wanted_plain rfl _) (rn_asg rfl (he121.op rfl) w107) ?_
              intro a122 he122
              clear he121 a121
              refine wpList_nil ?_
              refine then_ok ?_
              obtain ⟨e1, e2⟩ := cnt_stop hcn hc (step_same (by rw [hpe, hs]))
              refine wp_ret ?_
              try simp only [Exit.then, Exit.inBlock]
              exact ret_tt rfl he122 rfl rfl ⟨by rw [e1, e2], hH107.new⟩
            · skip
              refine wp_seq ?_
              refine wp_seq ?_
              refine wp_region_held_drew (S := Hp w [⟨p12, 67, (Rn.cs c)⟩]) (by kernel_rfl) (hH15.drew) (fun _ => ?_)
              have hn : New w15 (World.drew w15) := (Fr.refl _ _).drew
              clear hn
              have hH123 := hH15.drew
              clear hH15
              generalize World.drew w15 = w123 at *
              refine hV (fuel := 12) (i := 0) (Value.int .i64 (k : Int)) he52 rfl rfl rfl (by kernel_rfl) (by kernel_rfl) (by kernel_rfl) (fun _ _ _ h => h) (wanted_plain rfl _) (fun w' _ => rn_mv rfl (he52.op rfl) w') hH123 ?_
              intro a124 he124
              clear he52 a51
              refine hV (fuel := 11) (i := 1) (Value.bool true) he124 rfl rfl rfl (by kernel_rfl) (by kernel_rfl) (by kernel_rfl) (fun _ _ _ h => h) (wanted_plain rfl _) (fun w' _ => rn_gtr rfl (he124.op rfl) (he124.op rfl) (decide_eq_true (by omega)) w') hH123 ?_
              intro a125 he125
              clear he124 a124
              refine hV (fuel := 10) (i := 2) (Value.bool true) he125 rfl rfl rfl (by kernel_rfl) (by kernel_rfl) (by kernel_rfl) (fun _ _ _ h => h) (wanted_plain rfl _) (fun w' _ => rn_mv rfl (he125.op rfl) w') hH123 ?_
              intro a126 he126
              clear he125 a125
              refine hV (fuel := 9) (i := 3) (Value.pointer (some ⟨p12, 1, none⟩)) he126 rfl rfl rfl (by kernel_rfl) (by kernel_rfl) (by kernel_rfl) (fun _ _ _ h => h) (he126.want rfl rfl rfl rfl rfl) (fun w' _ => rn_faR1 rfl (he126.op rfl) rfl w') hH123 ?_
              intro a127 he127
              clear he126 a126
              refine hV (fuel := 8) (i := 4) (Wd.v c.w) he127 rfl rfl rfl (by kernel_rfl) (by kernel_rfl) (by kernel_rfl) (fun _ _ _ h => h) (he127.want rfl rfl rfl rfl rfl) (fun w' hw' => rn_ldp [Value.int .u64 c.w.a, Value.int .u64 c.w.b, Value.int .u64 c.w.c] rfl (he127.op rfl) Tryd.underlying34 rfl infoW3 (hw'.at (i := 0) rfl) rfl) hH123 ?_
              intro a128 he128
              clear he127 a127
              refine hV (fuel := 7) (i := 5) (Value.slice (some ⟨b, o0, none⟩) n cap) he128 rfl rfl rfl (by kernel_rfl) (by kernel_rfl) (by kernel_rfl) (fun _ _ _ h => h) (he128.want rfl rfl rfl rfl rfl) (fun w' _ => rn_mv rfl (he128.op rfl) w') hH123 ?_
              intro a129 he129
              clear he128 a128
              refine hV (fuel := 6) (i := 6) (Value.int .i64 (k : Int)) he129 rfl rfl rfl (by kernel_rfl) (by kernel_rfl) (by kernel_rfl) (fun _ _ _ h => h) (he129.want rfl rfl rfl rfl rfl) (fun w' _ => rn_mv rfl (he129.op rfl) w') hH123 ?_
              intro a130 he130
              clear he129 a129
              refine hV (fuel := 5) (i := 7) (Value.int .i64 ((k - 1 : Nat) : Int)) he130 rfl rfl rfl (by kernel_rfl) (by kernel_rfl) (by kernel_rfl) (fun _ _ _ h => h) (he130.want rfl rfl rfl rfl rfl) (fun w' _ => rn_subI rfl (he130.op rfl) (he130.op rfl) (by rw [IntWalk.i64_in _ ⟨by omega, by omega⟩]; omega) w') hH123 ?_
              intro a131 he131
              clear he130 a130
              refine hV (fuel := 4) (i := 8) (Value.pointer (some ⟨b, o0 + (k - 1) * 4, none⟩)) he131 rfl rfl rfl (by kernel_rfl) (by kernel_rfl) (by kernel_rfl) (fun _ _ _ h => h) (he131.want rfl rfl rfl rfl rfl) (fun w' _ => rn_idxR (i := (k - 1)) rfl (he131.op rfl) (he131.op rfl) (by omega) (by rw [addr_add]) w') hH123 ?_
              intro a132 he132
              clear he131 a131
              refine hV (fuel := 3) (i := 9) (Value.pointer (some ⟨b, o0 + (k - 1) * 4 + 1, none⟩)) he132 rfl rfl rfl (by kernel_rfl) (by kernel_rfl) (by kernel_rfl) (fun _ _ _ h => h) (he132.want rfl rfl rfl rfl rfl) (fun w' _ => rn_faR1 rfl (he132.op rfl) rfl w') hH123 ?_
              intro a133 he133
              clear he132 a132
              refine hV (fuel := 2) (i := 10) (Wd.v d.w) he133 rfl rfl rfl (by kernel_rfl) (by kernel_rfl) (by kernel_rfl) (fun _ _ _ h => h) (he133.want rfl rfl rfl rfl rfl) (fun w' hw' => rn_sRw (i := (k - 1)) rfl (he133.op rfl) (hr.new hw'.new) rfl hd) hH123 ?_
              intro a134 he134
              clear he133 a133
              refine hV (fuel := 1) (i := 11) (Value.bool false) he134 rfl rfl rfl (by kernel_rfl) (by kernel_rfl) (by kernel_rfl) (fun _ _ _ h => h) (he134.want rfl rfl rfl rfl rfl) (fun w' _ => rn_eqW rfl (he134.op rfl) (he134.op rfl) (decide_eq_false hs) w') hH123 ?_
              intro a135 he135
              clear he134 a134
              refine hV (fuel := 0) (i := 12) (Value.bool false) he135 rfl rfl rfl (by kernel_rfl) (by kernel_rfl) (by kernel_rfl) (fun _ _ _ h => h) (wanted_plain rfl _) (fun w' _ => rn_pk rfl (he135.op rfl) (he135.op rfl) w') hH123 ?_
              intro a136 he136
              clear he135 a135
              refine wpAnyH_done (by kernel_rfl) ?_ _
              refine then_ok ?_
              refine wp_cond_false (he136.op rfl) ?_
              refine wp_skip ?_
              refine then_ok ?_
              have hpn : prevW l k ≠ some c.w := by rw [hpe]; simp only [ne_eq, Option.some.injEq]; exact fun e => hs e.symm
              clear hs
              have he137 : Env 53 [(5, Value.int .i64 (k : Int)), (6, Value.pointer (some ⟨p12, 0, none⟩)), (0, Value.slice (some ⟨b, o0, none⟩) n cap), (4, Value.int .i64 m), (9, Value.slice (some ⟨b, o0, none⟩) n cap), (10, Value.int .i64 (n : Nat)), (11, Value.int .i64 (k : Int))] a136 := he136.mem ⟨rfl, rfl, rfl, rfl, rfl, rfl, rfl, trivial⟩
              clear he136
              as_aux_lemma =>
                cases hg : goodB c.w with
                | false =>
                  refine wp_seq ?_
                  refine wp_seq ?_
                  refine wp_region_lit ?_
                  refine lV (Value.pointer (some ⟨p12, 1, none⟩)) he137 rfl rfl (wanted_plain rfl _) (rn_faR1 rfl (he137.op rfl) rfl w123) ?_
                  intro a138 he138
                  clear he137 a136
                  refine lV (Wd.v c.w) he138 rfl rfl (wanted_plain rfl _) (rn_ldp [Value.int .u64 c.w.a, Value.int .u64 c.w.b, Value.int .u64 c.w.c] rfl (he138.op rfl) Tryd.underlying34 rfl infoW3 (hH123.at (i := 0) rfl) rfl) ?_
                  intro a139 he139
                  clear he138 a138
                  refine lC he139 rfl rfl Tryd.func33 (by kernel_rfl) rfl rfl (wanted_plain rfl _) rfl (PCell_no c.w hco.w hg w123 (hT.new hH123.new)) ?_
                  intro w140 a141 hn he141
                  have hH140 := hH123.call hn
                  clear he139 a139 hH123 hn
                  refine lV (Value.tuple #[Ce.v zeroCe, Value.int .i64 12]) he141 rfl rfl (wanted_plain rfl _) (rn_mv rfl (he141.op rfl) w140) ?_
                  intro a142 he142
                  clear he141 a141
                  refine lV (Ce.v zeroCe) he142 rfl rfl (wanted_plain rfl _) (rn_ext rfl (he142.op rfl) rfl w140) ?_
                  intro a143 he143
                  clear he142 a142
                  refine lV (Value.int .i64 12) he143 rfl rfl (wanted_plain rfl _) (rn_ext rfl (he143.op rfl) rfl w140) ?_
                  intro a144 he144
                  clear he143 a143
                  refine lNew (fun p => .pointer (some ⟨p, 0, none⟩)) he144 hH140 rfl rfl (wanted_plain rfl _) (rn_alloc rfl w140) ?_
                  intro p145 w145 a146 hn hH145 he146
                  clear he144 a144 hH140 hn
                  refine lSetV 0 (Ce.cs zeroCe) (cs := (Ce.cs zeroCe)) he146 hH145 rfl (wanted_plain rfl _) rfl rfl rfl rfl rfl (by kernel_rfl) (by kernel_rfl) (by kernel_rfl) rfl ?_
                  intro w147 a148 hH147 he148
                  replace hH147 : Hp w [⟨p145, 30, (Ce.cs zeroCe)⟩, ⟨p12, 67, (Rn.cs c)⟩] w147 := hH147
                  clear he146 a146 hH145
                  refine lV (Value.int .i64 12) he148 rfl rfl (wanted_plain rfl _) (rn_asg rfl (he148.op rfl) w147) ?_
                  intro a149 he149
                  clear he148 a148
                  refine wpList_nil ?_
                  refine then_ok ?_
                  refine wp_seq ?_
                  refine wp_region_lit ?_
                  refine lV (Value.int .i64 12) he149 rfl rfl (wanted_plain rfl _) (rn_mv rfl (he149.op rfl) w147) ?_
                  intro a150 he150
                  clear he149 a149
                  refine lV (Value.bool true) he150 rfl rfl (wanted_plain rfl _) (rn_neE rfl (he150.op rfl) (he150.op rfl) (by decide) w147) ?_
                  intro a151 he151
                  clear he150 a150
                  refine wpList_nil ?_
                  refine then_ok ?_
                  refine wp_cond_true (he151.op rfl) ?_
                  refine wp_seq ?_
                  refine wp_region_lit ?_
                  refine lV (Value.int .i64 0) he151 rfl rfl (wanted_plain rfl _) (rn_asg rfl (he151.op rfl) w147) ?_
                  intro a152 he152
                  clear he151 a151
                  refine lV (Value.bool false) he152 rfl rfl (wanted_plain rfl _) (rn_asg rfl (he152.op rfl) w147) ?_
                  intro a153 he153
                  clear he152 a152
                  refine wpList_nil ?_
                  refine then_ok ?_
                  obtain ⟨e1, e2⟩ := cnt_stop hcn hc (step_bad hg)
                  refine wp_ret ?_
                  try simp only [Exit.then, Exit.inBlock]
                  exact ret_tt rfl he153 rfl rfl ⟨by rw [e1, e2], hH147.new⟩
                | true =>
                  refine wp_seq ?_
                  refine wp_seq ?_
                  refine wp_region_lit ?_
                  refine lV (Value.pointer (some ⟨p12, 1, none⟩)) he137 rfl rfl (wanted_plain rfl _) (rn_faR1 rfl (he137.op rfl) rfl w123) ?_
                  intro a154 he154
                  clear he137 a136
                  refine lV (Wd.v c.w) he154 rfl rfl (wanted_plain rfl _) (rn_ldp [Value.int .u64 c.w.a, Value.int .u64 c.w.b, Value.int .u64 c.w.c] rfl (he154.op rfl) Tryd.underlying34 rfl infoW3 (hH123.at (i := 0) rfl) rfl) ?_
                  intro a155 he155
                  clear he154 a154
                  refine lC he155 rfl rfl Tryd.func33 (by kernel_rfl) rfl rfl (wanted_plain rfl _) rfl (PCell_yes c.w hco.w hg w123 (hT.new hH123.new)) ?_
                  intro w156 a157 hn he157
                  have hH156 := hH123.call hn
                  clear he155 a155 hH123 hn
                  refine lV (Value.tuple #[Ce.v (cellI c.w), Value.int .i64 0]) he157 rfl rfl (wanted_plain rfl _) (rn_mv rfl (he157.op rfl) w156) ?_
                  intro a158 he158
                  clear he157 a157
                  refine lV (Ce.v (cellI c.w)) he158 rfl rfl (wanted_plain rfl _) (rn_ext rfl (he158.op rfl) rfl w156) ?_
                  intro a159 he159
                  clear he158 a158
                  refine lV (Value.int .i64 0) he159 rfl rfl (wanted_plain rfl _) (rn_ext rfl (he159.op rfl) rfl w156) ?_
                  intro a160 he160
                  clear he159 a159
                  refine lNew (fun p => .pointer (some ⟨p, 0, none⟩)) he160 hH156 rfl rfl (wanted_plain rfl _) (rn_alloc rfl w156) ?_
                  intro p161 w161 a162 hn hH161 he162
                  clear he160 a160 hH156 hn
                  refine lSetV 0 (Ce.cs (cellI c.w)) (cs := (Ce.cs (cellI c.w))) he162 hH161 rfl (wanted_plain rfl _) rfl rfl rfl rfl rfl (by kernel_rfl) (by kernel_rfl) (by kernel_rfl) rfl ?_
                  intro w163 a164 hH163 he164
                  replace hH163 : Hp w [⟨p161, 30, (Ce.cs (cellI c.w))⟩, ⟨p12, 67, (Rn.cs c)⟩] w163 := hH163
                  clear he162 a162 hH161
                  refine lV (Value.int .i64 0) he164 rfl rfl (wanted_plain rfl _) (rn_asg rfl (he164.op rfl) w163) ?_
                  intro a165 he165
                  clear he164 a164
                  refine wpList_nil ?_
                  refine then_ok ?_
                  refine wp_seq ?_
                  refine wp_region_lit ?_
                  refine lV (Value.int .i64 0) he165 rfl rfl (wanted_plain rfl _) (rn_mv rfl (he165.op rfl) w163) ?_
                  intro a166 he166
                  clear he165 a165
                  refine lV (Value.bool false) he166 rfl rfl (wanted_plain rfl _) (rn_neE rfl (he166.op rfl) (he166.op rfl) (by decide) w163) ?_
                  intro a167 he167
                  clear he166 a166
                  refine wpList_nil ?_
                  refine then_ok ?_
                  refine wp_cond_false (he167.op rfl) ?_
                  refine wp_skip ?_
                  refine then_ok ?_
                  refine wp_region_lit ?_
                  have hs := stepR_ok (n := m) (p := prevW l k) (r := c) (by omega) (by omega) hpn hg
                  refine lV (Value.int .i64 m) he167 rfl rfl (wanted_plain rfl _) (rn_mv rfl (he167.op rfl) w163) ?_
                  intro a168 he168
                  clear he167 a167
                  refine lV (Value.pointer (some ⟨p12, 0, none⟩)) he168 rfl rfl (wanted_plain rfl _) (rn_faR0 rfl (he168.op rfl) rfl w163) ?_
                  intro a169 he169
                  clear he168 a168
                  refine lV (Value.int .i64 c.n) he169 rfl rfl (wanted_plain rfl _) (rn_ld1 rfl (he169.op rfl) Tryd.underlying3 (hH163.at (i := 1) rfl) rfl) ?_
                  intro a170 he170
                  clear he169 a169
                  refine lV (Value.int .i64 (m + c.n)) he170 rfl rfl (wanted_plain rfl _) (rn_add1 rfl (he170.op rfl) (he170.op rfl) (by rw [IntWalk.i64_in _ ⟨by omega, by omega⟩]) w163) ?_
                  intro a171 he171
                  clear he170 a170
                  refine lV (Value.int .i64 (m + c.n)) he171 rfl rfl (wanted_plain rfl _) (rn_asg rfl (he171.op rfl) w163) ?_
                  intro a172 he172
                  clear he171 a171
                  refine wpList_nil ?_
                  refine block_ok ?_
                  refine then_ok ?_
                  refine wp_region_lit ?_
                  refine lV (Value.int .i64 ((k + 1 : Nat) : Int)) he172 rfl rfl (wanted_plain rfl _) (rn_add1 rfl (he172.op rfl) (he172.op rfl) (by rw [IntWalk.i64_in _ ⟨by omega, by omega⟩]; rfl) w163) ?_
                  intro a173 he173
                  clear he172 a172
                  refine lV (Value.int .i64 ((k + 1 : Nat) : Int)) he173 rfl rfl (wanted_plain rfl _) (rn_mv rfl (he173.op rfl) w163) ?_
                  intro a174 he174
                  clear he173 a173
                  refine wpList_nil ?_
                  refine then_ok ?_
                  have hH175 := hH163.tail rfl
                  clear hH163
                  have hH176 := hH175.tail rfl
                  clear hH175
                  exact ⟨n - (k + 1), by omega, k + 1, m + c.n, rfl, by omega, by omega, by omega, cnt_go hcn hc hs, he174.mem ⟨rfl, rfl, rfl, rfl, rfl, trivial⟩, hH176⟩
    · skip
      refine wp_seq ?_
      refine wp_region_lit ?_
      refine lV (Value.bool false) he7 rfl rfl (wanted_plain rfl _) (rn_lss rfl (he7.op rfl) (he7.op rfl) (decide_eq_false (by omega)) w7) ?_
      intro a177 he177
      clear he7 a7
      refine wpList_nil ?_
      refine then_ok ?_
      refine wp_seq ?_
      refine wp_cond_false (he177.op rfl) ?_
      refine wp_exit ?_
      simp only [Exit.then, Exit.inBlock, if_true]
      refine wp_seq ?_
      refine wp_region_lit ?_
      refine lV (Value.int .i64 m) he177 rfl rfl (wanted_plain rfl _) (rn_mv rfl (he177.op rfl) w7) ?_
      intro a178 he178
      clear he177 a177
      refine lV (Value.int .i64 m) he178 rfl rfl (wanted_plain rfl _) (rn_asg rfl (he178.op rfl) w7) ?_
      intro a179 he179
      clear he178 a178
      refine lV (Value.bool true) he179 rfl rfl (wanted_plain rfl _) (rn_asg rfl (he179.op rfl) w7) ?_
      intro a180 he180
      clear he179 a179
      refine wpList_nil ?_
      refine then_ok ?_
      rw [List.drop_eq_nil_of_le (by omega), cntR] at hcn
      refine wp_ret ?_
      try simp only [Exit.then, Exit.inBlock]
      exact ret_tt rfl he180 rfl rfl ⟨by rw [goodR, countR, hcn]; rfl, hH7.new⟩

set_option linter.unusedSimpArgs false in
set_option maxRecDepth 100000 in
set_option maxHeartbeats 1600000 in
theorem ValidR_any (l : List Rn) (n b cap : Nat) (A : Option Addr) (w : World) (hr : RdR w b A n l) (hok : ∀ r ∈ l, r.Ok) (hn : n ≤ 1000000) (hT : Tab w) :
    Calls Tryd.prog 20 #[.slice A n cap] w fun e w' => e = .returned (.bool (goodR l)) ∧ New w w' := by
  refine calls_args (vl := [Value.slice A n cap]) 11 Tryd.func20 rfl Tryd.ntmps20 (by kernel_rfl) (fun a he => ?_)
  have he0 : Env 11 [(0, Value.slice A n cap)] a := he
  clear he
  have hH := Hp.start w
  refine wp_seq ?_
  refine wp_region_lit ?_
  refine lV (Value.bool false) he0 rfl rfl (wanted_plain rfl _) (rn_asg rfl (he0.op rfl) w) ?_
  intro a1 he1
  clear he0 a
  refine wpList_nil ?_
  refine then_ok ?_
  refine wp_seq ?_
  refine wp_region_lit ?_
  refine lV (Value.slice A n cap) he1 rfl rfl (wanted_plain rfl _) (rn_mv rfl (he1.op rfl) w) ?_
  intro a2 he2
  clear he1 a1
  refine lC he2 rfl rfl Tryd.func35 (by kernel_rfl) rfl rfl (wanted_plain rfl _) rfl (counted_any l n b cap A w (hr.new hH.new) hok hn (hT.new hH.new)) ?_
  intro w3 a4 hn he4
  have hH3 := hH.call hn
  clear he2 a2 hH hn
  refine lV (Value.tuple #[Value.int .i64 (countR l), Value.bool (goodR l)]) he4 rfl rfl (wanted_plain rfl _) (rn_mv rfl (he4.op rfl) w3) ?_
  intro a5 he5
  clear he4 a4
  refine lV (Value.int .i64 (countR l)) he5 rfl rfl (wanted_plain rfl _) (rn_ext rfl (he5.op rfl) rfl w3) ?_
  intro a6 he6
  clear he5 a5
  refine lV (Value.bool (goodR l)) he6 rfl rfl (wanted_plain rfl _) (rn_ext rfl (he6.op rfl) rfl w3) ?_
  intro a7 he7
  clear he6 a6
  refine lV (Value.int .i64 (countR l)) he7 rfl rfl (wanted_plain rfl _) (rn_asg rfl (he7.op rfl) w3) ?_
  intro a8 he8
  clear he7 a7
  refine lV (Value.bool (goodR l)) he8 rfl rfl (wanted_plain rfl _) (rn_asg rfl (he8.op rfl) w3) ?_
  intro a9 he9
  clear he8 a8
  refine wpList_nil ?_
  refine then_ok ?_
  refine wp_seq ?_
  refine wp_region_lit ?_
  refine lV (Value.bool (goodR l)) he9 rfl rfl (wanted_plain rfl _) (rn_mv rfl (he9.op rfl) w3) ?_
  intro a10 he10
  clear he9 a9
  refine lV (Value.bool (goodR l)) he10 rfl rfl (wanted_plain rfl _) (rn_asg rfl (he10.op rfl) w3) ?_
  intro a11 he11
  clear he10 a10
  refine wpList_nil ?_
  refine then_ok ?_
  refine wp_ret ?_
  try simp only [Exit.then, Exit.inBlock]
  exact ret_env rfl he11 rfl ⟨rfl, hH3.new⟩

set_option linter.unusedSimpArgs false in
set_option maxRecDepth 100000 in
set_option maxHeartbeats 1600000 in
theorem CountR_any (l : List Rn) (n b cap : Nat) (A : Option Addr) (w : World) (hr : RdR w b A n l) (hok : ∀ r ∈ l, r.Ok) (hn : n ≤ 1000000) (hT : Tab w) :
    Calls Tryd.prog 21 #[.slice A n cap] w fun e w' => e = .returned (.int .i64 (countR l)) ∧ New w w' := by
  refine calls_args (vl := [Value.slice A n cap]) 11 Tryd.func21 rfl Tryd.ntmps21 (by kernel_rfl) (fun a he => ?_)
  have he0 : Env 11 [(0, Value.slice A n cap)] a := he
  clear he
  have hH := Hp.start w
  refine wp_seq ?_
  refine wp_region_lit ?_
  refine lV (Value.int .i64 0) he0 rfl rfl (wanted_plain rfl _) (rn_asg rfl (he0.op rfl) w) ?_
  intro a1 he1
  clear he0 a
  refine wpList_nil ?_
  refine then_ok ?_
  refine wp_seq ?_
  refine wp_region_lit ?_
  refine lV (Value.slice A n cap) he1 rfl rfl (wanted_plain rfl _) (rn_mv rfl (he1.op rfl) w) ?_
  intro a2 he2
  clear he1 a1
  refine lC he2 rfl rfl Tryd.func35 (by kernel_rfl) rfl rfl (wanted_plain rfl _) rfl (counted_any l n b cap A w (hr.new hH.new) hok hn (hT.new hH.new)) ?_
  intro w3 a4 hn he4
  have hH3 := hH.call hn
  clear he2 a2 hH hn
  refine lV (Value.tuple #[Value.int .i64 (countR l), Value.bool (goodR l)]) he4 rfl rfl (wanted_plain rfl _) (rn_mv rfl (he4.op rfl) w3) ?_
  intro a5 he5
  clear he4 a4
  refine lV (Value.int .i64 (countR l)) he5 rfl rfl (wanted_plain rfl _) (rn_ext rfl (he5.op rfl) rfl w3) ?_
  intro a6 he6
  clear he5 a5
  refine lV (Value.bool (goodR l)) he6 rfl rfl (wanted_plain rfl _) (rn_ext rfl (he6.op rfl) rfl w3) ?_
  intro a7 he7
  clear he6 a6
  refine lV (Value.int .i64 (countR l)) he7 rfl rfl (wanted_plain rfl _) (rn_asg rfl (he7.op rfl) w3) ?_
  intro a8 he8
  clear he7 a7
  refine lV (Value.bool (goodR l)) he8 rfl rfl (wanted_plain rfl _) (rn_asg rfl (he8.op rfl) w3) ?_
  intro a9 he9
  clear he8 a8
  refine wpList_nil ?_
  refine then_ok ?_
  refine wp_seq ?_
  refine wp_region_lit ?_
  refine lV (Value.int .i64 (countR l)) he9 rfl rfl (wanted_plain rfl _) (rn_mv rfl (he9.op rfl) w3) ?_
  intro a10 he10
  clear he9 a9
  refine lV (Value.int .i64 (countR l)) he10 rfl rfl (wanted_plain rfl _) (rn_asg rfl (he10.op rfl) w3) ?_
  intro a11 he11
  clear he10 a10
  refine wpList_nil ?_
  refine then_ok ?_
  refine wp_ret ?_
  try simp only [Exit.then, Exit.inBlock]
  exact ret_env rfl he11 rfl ⟨rfl, hH3.new⟩

end Go.Proofs.YtaiijndldngnkaaDoor
namespace Go.Proofs.YtaiijndldngnkaaDoor
open Go.RowKit

theorem addR_le {X : List Rn} {r : Rn} {M d : Int} (hX : ∀ q ∈ X, 1 ≤ q.n ∧ q.n ≤ M) (h1 : 1 ≤ r.n) (hd : r.n ≤ d) (hM : 0 ≤ M) : ∀ q ∈ addR X r, 1 ≤ q.n ∧ q.n ≤ M + d := by
  rcases snoc_cases X with rfl | ⟨m, x, rfl⟩
  · intro q hq
    rw [addR_nil, List.mem_singleton] at hq
    subst hq
    omega
  · have hx := hX x (by simp)
    intro q hq
    rw [addR_snoc] at hq
    split at hq
    · simp only [List.mem_append, List.mem_singleton] at hq
      rcases hq with hq | rfl
      · have := hX q (by simp [hq]); omega
      · simp only; omega
    · simp only [List.mem_append, List.mem_singleton] at hq
      rcases hq with (hq | rfl) | rfl
      · have := hX q (by simp [hq]); omega
      · omega
      · omega
theorem last_mem {X : List Rn} {q : Rn} (h : X.getLast? = some q) : q ∈ X := List.mem_of_getLast? h
theorem cnt_all {l : List Rn} : ∀ {n m : Int} {p : Option Wd}, 0 ≤ n → cntR n p l = some m → ∀ r ∈ l, 1 ≤ r.n ∧ r.n ≤ 100000 ∧ goodB r.w = true := by
  induction l with
  | nil => intro n m p _ _ r hr; simp at hr
  | cons c l ih =>
    intro n m p hn h r hr
    obtain ⟨k, h1, h2⟩ := cntR_cons h
    obtain ⟨g1, g2, g3, -, g5⟩ := stepR_some h1
    rcases List.mem_cons.1 hr with rfl | hr
    · exact ⟨g1, by omega, g5⟩
    · exact ih (by omega) h2 r hr
theorem good_all {l : List Rn} (h : goodR l = true) : ∀ r ∈ l, 1 ≤ r.n ∧ r.n ≤ 100000 ∧ goodB r.w = true := by
  obtain ⟨m, hm⟩ := Option.isSome_iff_exists.1 h
  exact cnt_all (by omega) hm
theorem addR_pos (X : List Rn) (r : Rn) : 0 < (addR X r).length := by
  rcases snoc_cases X with rfl | ⟨m, x, rfl⟩
  · exact Nat.one_pos
  · rw [addR_snoc]; split <;> simp
theorem addR_lens (X : List Rn) (r : Rn) : X.length ≤ (addR X r).length := by
  rcases snoc_cases X with rfl | ⟨m, x, rfl⟩
  · exact Nat.zero_le _
  · rw [addR_snoc]; split <;> simp
theorem pack_le (l : List Ce) : (packL l).length ≤ l.length ∧ ∀ q ∈ packL l, 1 ≤ q.n ∧ q.n ≤ l.length := by
  have key : ∀ k, k ≤ l.length → (packL (l.take k)).length ≤ k ∧ ∀ q ∈ packL (l.take k), 1 ≤ q.n ∧ q.n ≤ k := by
    intro k
    induction k with
    | zero => intro _; exact ⟨by simp [packL], fun q hq => by simp [packL] at hq⟩
    | succ k ih =>
      intro hk
      obtain ⟨h1, h2⟩ := ih (by omega)
      rw [take_snocC l k (by omega), pack_snoc]
      refine ⟨Nat.le_trans (addR_len _ _) (by omega), fun q hq => ?_⟩
      have := addR_le (d := 1) h2 (by simp [one]) (by simp [one]) (by omega) q hq
      omega
  have := key l.length (Nat.le_refl _)
  rwa [List.take_length] at this
theorem packE_bad {l : List Ce} {c : Ce} (hn : l.length ≤ 100000) (hc : c ∈ l) (hv : cellB c = false) : packE l = 2 := by
  rw [packE, if_neg (by omega), if_neg]
  intro h
  rw [List.all_eq_true.1 h c hc] at hv
  cases hv
theorem packO_bad {l : List Ce} (h : packE l ≠ 0) : packO l = [] := by rw [packO, if_neg h]
theorem pack_ne {l : List Ce} (h : l ≠ []) : 0 < (packL l).length := by
  rcases List.eq_nil_or_concat l with h' | ⟨m, c, h'⟩
  · exact absurd h' h
  · rw [h', List.concat_eq_append, pack_snoc]; exact addR_pos _ _
def joinE (a b : List Rn) : Int := if goodR a = false ∨ goodR b = false then 12 else if 100000 < countR a + countR b then 5 else 0
def joinO (a b : List Rn) : List Rn := if joinE a b = 0 then b.foldl addR a else []
theorem fold_snoc (X b : List Rn) (r : Rn) : (b ++ [r]).foldl addR X = addR (b.foldl addR X) r := by simp [List.foldl_append]
theorem take_snocR (l : List Rn) (k : Nat) (r : Rn) (h : l[k]? = some r) : l.take (k + 1) = l.take k ++ [r] := by rw [List.take_add_one, h]; rfl
theorem fold_len (b : List Rn) : ∀ X : List Rn, (b.foldl addR X).length ≤ X.length + b.length := by
  induction b with
  | nil => intro X; simp
  | cons r b ih => intro X; rw [List.foldl_cons, List.length_cons]; have := ih (addR X r); have := addR_len X r; omega

set_option linter.unusedSimpArgs false in
set_option maxRecDepth 100000 in
set_option maxHeartbeats 1600000 in
theorem Pack_any (l : List Ce) (n b cap : Nat) (A : Option Addr) (w : World) (hr : RdC w b A n l) (hok : ∀ c ∈ l, c.p.Ok) (hn : n ≤ 1000000) (hT : Tab w) :
    Calls Tryd.prog 25 #[.slice A n cap] w fun e w' => (∃ (A' : Option Addr) (c' b' : Nat), e = .returned (.tuple #[.slice A' (packO l).length c', .int .i64 (packE l)]) ∧ RdR w' b' A' (packO l).length (packO l)) ∧ New w w' := by
  have hl := hr.1
  refine calls_args (vl := [Value.slice A n cap]) 32 Tryd.func25 rfl Tryd.ntmps25 (by kernel_rfl) (fun a he => ?_)
  have he0 : Env 32 [(0, Value.slice A n cap)] a := he
  clear he
  have hH := Hp.start w
  refine wp_seq ?_
  refine wp_region_lit ?_
  refine lV (Value.slice none 0 0) he0 rfl rfl (wanted_plain rfl _) (rn_asg rfl (he0.op rfl) w) ?_
  intro a1 he1
  clear he0 a
  refine lV (Value.int .i64 0) he1 rfl rfl (wanted_plain rfl _) (rn_asg rfl (he1.op rfl) w) ?_
  intro a2 he2
  clear he1 a1
  refine wpList_nil ?_
  refine then_ok ?_
  by_cases hbig : 100000 < n
  · skip
    refine wp_seq ?_
    refine wp_seq ?_
    refine wp_region_lit ?_
    refine lV (Value.slice A n cap) he2 rfl rfl (wanted_plain rfl _) (rn_mv rfl (he2.op rfl) w) ?_
    intro a3 he3
    clear he2 a2
    refine lV (Value.int .i64 (n : Nat)) he3 rfl rfl (wanted_plain rfl _) (rn_lenC rfl (he3.op rfl) w) ?_
    intro a4 he4
    clear he3 a3
    refine lV (Value.bool true) he4 rfl rfl (wanted_plain rfl _) (rn_gtr rfl (he4.op rfl) (he4.op rfl) (decide_eq_true (by omega)) w) ?_
    intro a5 he5
    clear he4 a4
    refine wpList_nil ?_
    refine then_ok ?_
    refine wp_cond_true (he5.op rfl) ?_
    refine wp_seq ?_
    refine wp_region_lit ?_
    refine lV (Value.slice none 0 0) he5 rfl rfl (wanted_plain rfl _) (rn_asg rfl (he5.op rfl) w) ?_
    intro a6 he6
    clear he5 a5
    refine lV (Value.int .i64 5) he6 rfl rfl (wanted_plain rfl _) (rn_asg rfl (he6.op rfl) w) ?_
    intro a7 he7
    clear he6 a6
    refine wpList_nil ?_
    refine then_ok ?_
    have he1 : packE l = 5 := by rw [packE, if_pos (by omega)]
    have he2 := packO_bad (l := l) (by rw [he1]; decide)
    refine wp_ret ?_
    try simp only [Exit.then, Exit.inBlock]
    exact ret_tt rfl he7 rfl rfl ⟨⟨none, 0, 0, by rw [he1, he2]; rfl, by rw [he2]; exact RdG.nil _ _ _⟩, hH.new⟩
  · skip
    refine wp_seq ?_
    refine wp_seq ?_
    refine wp_region_lit ?_
    refine lV (Value.slice A n cap) he2 rfl rfl (wanted_plain rfl _) (rn_mv rfl (he2.op rfl) w) ?_
    intro a8 he8
    clear he2 a2
    refine lV (Value.int .i64 (n : Nat)) he8 rfl rfl (wanted_plain rfl _) (rn_lenC rfl (he8.op rfl) w) ?_
    intro a9 he9
    clear he8 a8
    refine lV (Value.bool false) he9 rfl rfl (wanted_plain rfl _) (rn_gtr rfl (he9.op rfl) (he9.op rfl) (decide_eq_false (by omega)) w) ?_
    intro a10 he10
    clear he9 a9
    refine wpList_nil ?_
    refine then_ok ?_
    refine wp_cond_false (he10.op rfl) ?_
    refine wp_skip ?_
    refine then_ok ?_
    refine wp_seq ?_
    refine wp_region_lit ?_
    refine lV (Value.slice none 0 0) he10 rfl rfl (wanted_plain rfl _) (rn_asg rfl (he10.op rfl) w) ?_
    intro a11 he11
    clear he10 a10
    refine wpList_nil ?_
    refine then_ok ?_
    refine wp_seq ?_
    refine wp_seq ?_
    refine wp_region_lit ?_
    refine lV (Value.slice A n cap) he11 rfl rfl (wanted_plain rfl _) (rn_mv rfl (he11.op rfl) w) ?_
    intro a12 he12
    clear he11 a11
    refine lV (Value.int .i64 (n : Nat)) he12 rfl rfl (wanted_plain rfl _) (rn_lenC rfl (he12.op rfl) w) ?_
    intro a13 he13
    clear he12 a12
    refine lV (Value.int .i64 0) he13 rfl rfl (wanted_plain rfl _) (rn_mv rfl (he13.op rfl) w) ?_
    intro a14 he14
    clear he13 a13
    refine wpList_nil ?_
    refine then_ok ?_
    refine wp_block ?_
    refine loop_nat (fun q a w' => ∃ (k : Nat) (vr : Value), q = n - k ∧ k ≤ n ∧ (∀ c ∈ l.take k, cellB c = true) ∧ Env 32 [(0, Value.slice A n cap), (4, vr), (12, Value.slice A n cap), (13, Value.int .i64 (n : Nat)), (14, Value.int .i64 (k : Int))] a ∧ Hp w [] w' ∧ OwnR w' w.heap.size vr (packL (l.take k)).length (packL (l.take k))) n ⟨0, _, by omega, by omega, by simp, he14.mem ⟨rfl, rfl, rfl, rfl, rfl, trivial⟩, hH, World.ownsRow_nil _ w.heap.size 67 4⟩ ?_
    clear he14 hH
    rintro q a15 w15 ⟨k, vr, rfl, hk, hval, he15, hH15, hown⟩
    as_aux_lemma =>
      by_cases hkn : k < n
      · skip
        have hT16 := hT.new hH15.new
        have hR16 := hH15.new
        replace hr := hr.new hH15.new
        have hH16 := Hp.start w15
        clear hH15 hT 
        refine wp_seq ?_
        refine wp_region_lit ?_
        refine lV (Value.bool true) he15 rfl rfl (wanted_plain rfl _) (rn_lss rfl (he15.op rfl) (he15.op rfl) (decide_eq_true (by omega)) w15) ?_
        intro a17 he17
        clear he15 a15
        refine wpList_nil ?_
        refine then_ok ?_
        refine wp_seq ?_
        refine wp_cond_true (he17.op rfl) ?_
        refine wp_skip ?_
        refine then_ok ?_
        obtain ⟨o0, rfl⟩ := hr.base (by omega)
        obtain ⟨c, hc⟩ : ∃ c, l[k]? = some c := ⟨_, List.getElem?_eq_getElem (by have := hr.1; omega)⟩
        have hcl : c ∈ l := List.mem_of_getElem? hc
        refine wp_seq ?_
        refine wp_block ?_
        refine wp_seq ?_
        refine wp_region_lit ?_
        refine lV (Value.pointer (some ⟨b, o0 + k * 16, none⟩)) he17 rfl rfl (wanted_plain rfl _) (rn_idx (i := k) rfl (he17.op rfl) (he17.op rfl) hkn (by rw [addr_add]) w15) ?_
        intro a18 he18
        clear he17 a17
        refine lV (Ce.v c) he18 rfl rfl (wanted_plain rfl _) (rn_loadM (i := k) rfl (he18.op rfl) (hr.new hH16.new) hkn rfl hc) ?_
        intro a19 he19
        clear he18 a18
        refine lNew (fun p => .pointer (some ⟨p, 0, none⟩)) he19 hH16 rfl rfl (wanted_plain rfl _) (rn_alloc rfl w15) ?_
        intro p20 w20 a21 hn hH20 he21
        clear he19 a19 hH16 hn
        refine lSetV 0 (Ce.cs c) (cs := (Ce.cs c)) he21 hH20 rfl (wanted_plain rfl _) rfl rfl rfl rfl rfl (by kernel_rfl) (by kernel_rfl) (by kernel_rfl) rfl ?_
        intro w22 a23 hH22 he23
        replace hH22 : Hp w15 [⟨p20, 30, (Ce.cs c)⟩] w22 := hH22
        clear he21 a21 hH20
        refine wpList_nil ?_
        refine then_ok ?_
        cases hv : cellB c with
        | false =>
          refine wp_seq ?_
          refine wp_region_lit ?_
          refine lV (Ce.v c) he23 rfl rfl (wanted_plain rfl _) (rn_load rfl (he23.op rfl) (hH22.at (i := 0) rfl)) ?_
          intro a24 he24
          clear he23 a23
          refine lC he24 rfl rfl Tryd.func26 (by kernel_rfl) rfl rfl (wanted_plain rfl _) rfl (Words_no c hv w22 (hT16.new hH22.new)) ?_
          intro w25 a26 hn he26
          have hH25 := hH22.call hn
          clear he24 a24 hH22 hn
          refine lV (Value.tuple #[Wd.v zeroW, Value.int .i64 2]) he26 rfl rfl (wanted_plain rfl _) (rn_mv rfl (he26.op rfl) w25) ?_
          intro a27 he27
          clear he26 a26
          refine lV (Wd.v zeroW) he27 rfl rfl (wanted_plain rfl _) (rn_ext rfl (he27.op rfl) rfl w25) ?_
          intro a28 he28
          clear he27 a27
          refine lV (Value.int .i64 2) he28 rfl rfl (wanted_plain rfl _) (rn_ext rfl (he28.op rfl) rfl w25) ?_
          intro a29 he29
          clear he28 a28
          refine lNew (fun p => .pointer (some ⟨p, 0, none⟩)) he29 hH25 rfl rfl (wanted_plain rfl _) (rn_allocW rfl w25) ?_
          intro p30 w30 a31 hn hH30 he31
          clear he29 a29 hH25 hn
          refine lSetV 0 (Wd.cs zeroW) (cs := (Wd.cs zeroW)) he31 hH30 rfl (wanted_plain rfl _) rfl rfl rfl rfl rfl (by kernel_rfl) (by kernel_rfl) (by kernel_rfl) rfl ?_
          intro w32 a33 hH32 he33
          replace hH32 : Hp w15 [⟨p30, 34, (Wd.cs zeroW)⟩, ⟨p20, 30, (Ce.cs c)⟩] w32 := hH32
          clear he31 a31 hH30
          refine lV (Value.int .i64 2) he33 rfl rfl (wanted_plain rfl _) (rn_asg rfl (he33.op rfl) w32) ?_
          intro a34 he34
          clear he33 a33
          refine wpList_nil ?_
          refine then_ok ?_
          refine wp_seq ?_
          refine wp_seq ?_
          refine wp_region_lit ?_
          refine lV (Value.int .i64 2) he34 rfl rfl (wanted_plain rfl _) (rn_mv rfl (he34.op rfl) w32) ?_
          intro a35 he35
          clear he34 a34
          refine lV (Value.bool true) he35 rfl rfl (wanted_plain rfl _) (rn_neE rfl (he35.op rfl) (he35.op rfl) (by decide) w32) ?_
          intro a36 he36
          clear he35 a35
          refine wpList_nil ?_
          refine then_ok ?_
          refine wp_cond_true (he36.op rfl) ?_
          refine wp_seq ?_
          refine wp_region_lit ?_
          refine lV (Value.int .i64 2) he36 rfl rfl (wanted_plain rfl _) (rn_mv rfl (he36.op rfl) w32) ?_
          intro a37 he37
          clear he36 a36
          refine lV (Value.slice none 0 0) he37 rfl rfl (wanted_plain rfl _) (rn_asg rfl (he37.op rfl) w32) ?_
          intro a38 he38
          clear he37 a37
          refine lV (Value.int .i64 2) he38 rfl rfl (wanted_plain rfl _) (rn_asg rfl (he38.op rfl) w32) ?_
          intro a39 he39
          clear he38 a38
          refine wpList_nil ?_
          refine then_ok ?_
          have he1 : packE l = 2 := packE_bad (by omega) hcl hv
          have he2 := packO_bad (l := l) (by rw [he1]; decide)
          refine wp_ret ?_
          try simp only [Exit.then, Exit.inBlock]
          exact ret_tt rfl he39 rfl rfl ⟨⟨none, 0, 0, by rw [he1, he2]; rfl, by rw [he2]; exact RdG.nil _ _ _⟩, (New.trans hR16 hH32.new)⟩
        | true =>
          refine wp_seq ?_
          refine wp_region_lit ?_
          refine lV (Ce.v c) he23 rfl rfl (wanted_plain rfl _) (rn_load rfl (he23.op rfl) (hH22.at (i := 0) rfl)) ?_
          intro a40 he40
          clear he23 a23
          refine lC he40 rfl rfl Tryd.func26 (by kernel_rfl) rfl rfl (wanted_plain rfl _) rfl (Words_yes c hv (hok c hcl) w22 (hT16.new hH22.new)) ?_
          intro w41 a42 hn he42
          have hH41 := hH22.call hn
          clear he40 a40 hH22 hn
          refine lV (Value.tuple #[Wd.v (wordsI c), Value.int .i64 0]) he42 rfl rfl (wanted_plain rfl _) (rn_mv rfl (he42.op rfl) w41) ?_
          intro a43 he43
          clear he42 a42
          refine lV (Wd.v (wordsI c)) he43 rfl rfl (wanted_plain rfl _) (rn_ext rfl (he43.op rfl) rfl w41) ?_
          intro a44 he44
          clear he43 a43
          refine lV (Value.int .i64 0) he44 rfl rfl (wanted_plain rfl _) (rn_ext rfl (he44.op rfl) rfl w41) ?_
          intro a45 he45
          clear he44 a44
          refine lNew (fun p => .pointer (some ⟨p, 0, none⟩)) he45 hH41 rfl rfl (wanted_plain rfl _) (rn_allocW rfl w41) ?_
          intro p46 w46 a47 hn hH46 he47
          clear he45 a45 hH41 hn
          refine lSetV 0 (Wd.cs (wordsI c)) (cs := (Wd.cs (wordsI c))) he47 hH46 rfl (wanted_plain rfl _) rfl rfl rfl rfl rfl (by kernel_rfl) (by kernel_rfl) (by kernel_rfl) rfl ?_
          intro w48 a49 hH48 he49
          replace hH48 : Hp w15 [⟨p46, 34, (Wd.cs (wordsI c))⟩, ⟨p20, 30, (Ce.cs c)⟩] w48 := hH48
          clear he47 a47 hH46
          refine lV (Value.int .i64 0) he49 rfl rfl (wanted_plain rfl _) (rn_asg rfl (he49.op rfl) w48) ?_
          intro a50 he50
          clear he49 a49
          refine wpList_nil ?_
          refine then_ok ?_
          refine wp_seq ?_
          refine wp_seq ?_
          refine wp_region_lit ?_
          refine lV (Value.int .i64 0) he50 rfl rfl (wanted_plain rfl _) (rn_mv rfl (he50.op rfl) w48) ?_
          intro a51 he51
          clear he50 a50
          refine lV (Value.bool false) he51 rfl rfl (wanted_plain rfl _) (rn_neE rfl (he51.op rfl) (he51.op rfl) (by decide) w48) ?_
          intro a52 he52
          clear he51 a51
          refine wpList_nil ?_
          refine then_ok ?_
          refine wp_cond_false (he52.op rfl) ?_
          refine wp_skip ?_
          refine then_ok ?_
          have he53 : Env 32 [(7, Value.pointer (some ⟨p46, 0, none⟩)), (0, Value.slice (some ⟨b, o0, none⟩) n cap), (4, vr), (12, Value.slice (some ⟨b, o0, none⟩) n cap), (13, Value.int .i64 (n : Nat)), (14, Value.int .i64 (k : Int))] a52 := he52.mem ⟨rfl, rfl, rfl, rfl, rfl, rfl, trivial⟩
          clear he52
          as_aux_lemma =>
            refine wp_region_lit ?_
            refine lV (vr) he53 rfl rfl (wanted_plain rfl _) (rn_mv rfl (he53.op rfl) w48) ?_
            intro a54 he54
            clear he53 a52
            refine lV (Wd.v (wordsI c)) he54 rfl rfl (wanted_plain rfl _) (rn_loadW rfl (he54.op rfl) (hH48.at (i := 0) rfl)) ?_
            intro a55 he55
            clear he54 a54
            refine lV (Rn.v ⟨1, (wordsI c)⟩) he55 rfl rfl (wanted_plain rfl _) (rn_bR rfl (he55.op rfl) (he55.op rfl) w48) ?_
            intro a56 he56
            clear he55 a55
            have hH57 := hH48.tail rfl
            clear hH48
            have hH58 := hH57.tail rfl
            clear hH57
            have hpl := pack_le (l.take k)
            have htl : (l.take k).length ≤ 100000 := by rw [List.length_take]; omega
            refine lCx he56 rfl rfl Tryd.func38 (by kernel_rfl) rfl rfl (wanted_plain rfl _) rfl (withRun_any w.heap.size vr (packL (l.take k)).length (packL (l.take k)) (one c) w48 (own_fr hown hH58.new (fun _ _ h => h)) (fun q hq => by have h1 := hpl.2 q (last_mem hq); have h2 : (one c).n = 1 := rfl; omega) (by have := hpl.1; omega) (New.trans hR16 hH58.new).size) ?_
            rintro _ w59 ⟨vx, rfl, hox, hf⟩
            refine ⟨_, rfl, ?_⟩
            intro a60 he60
            clear he56 a56
            have hH61 : Hp w [] w59 := ⟨new_low (Fr.refl _ _) (New.trans hR16 hH58.new) hf, by simp, by simp⟩
            clear hf hown hH58
            refine lV (vx) he60 rfl rfl (wanted_plain rfl _) (rn_asg rfl (he60.op rfl) w59) ?_
            intro a62 he62
            clear he60 a60
            refine wpList_nil ?_
            refine block_ok ?_
            refine then_ok ?_
            refine wp_region_lit ?_
            refine lV (Value.int .i64 ((k + 1 : Nat) : Int)) he62 rfl rfl (wanted_plain rfl _) (rn_add1 rfl (he62.op rfl) (he62.op rfl) (by rw [IntWalk.i64_in _ ⟨by omega, by omega⟩]; rfl) w59) ?_
            intro a63 he63
            clear he62 a62
            refine lV (Value.int .i64 ((k + 1 : Nat) : Int)) he63 rfl rfl (wanted_plain rfl _) (rn_mv rfl (he63.op rfl) w59) ?_
            intro a64 he64
            clear he63 a63
            refine wpList_nil ?_
            refine then_ok ?_
            have htk : l.take (k + 1) = l.take k ++ [c] := by rw [List.take_add_one, hc]; rfl
            refine ⟨n - (k + 1), by omega, k + 1, vx, rfl, by omega, fun d hd => ?_, he64.mem ⟨rfl, rfl, rfl, rfl, rfl, trivial⟩, hH61, by rw [htk, pack_snoc]; exact hox⟩
            rw [htk, List.mem_append, List.mem_singleton] at hd
            rcases hd with hd | rfl
            · exact hval d hd
            · exact hv
      · skip
        refine wp_seq ?_
        refine wp_region_lit ?_
        refine lV (Value.bool false) he15 rfl rfl (wanted_plain rfl _) (rn_lss rfl (he15.op rfl) (he15.op rfl) (decide_eq_false (by omega)) w15) ?_
        intro a65 he65
        clear he15 a15
        refine wpList_nil ?_
        refine then_ok ?_
        refine wp_seq ?_
        refine wp_cond_false (he65.op rfl) ?_
        refine wp_exit ?_
        simp only [Exit.then, Exit.inBlock, if_true]
        rw [List.take_of_length_le (by omega)] at hval hown
        have he1 : packE l = 0 := packE_ok (by omega) hval
        have he2 := packO_eq he1
        refine wp_seq ?_
        refine wp_region_lit ?_
        refine lV (vr) he65 rfl rfl (wanted_plain rfl _) (rn_mv rfl (he65.op rfl) w15) ?_
        intro a66 he66
        clear he65 a65
        refine lV (vr) he66 rfl rfl (wanted_plain rfl _) (rn_asg rfl (he66.op rfl) w15) ?_
        intro a67 he67
        clear he66 a66
        refine lV (Value.int .i64 0) he67 rfl rfl (wanted_plain rfl _) (rn_asg rfl (he67.op rfl) w15) ?_
        intro a68 he68
        clear he67 a67
        refine wpList_nil ?_
        refine then_ok ?_
        obtain ⟨b', A', c', rfl, -, hrd⟩ := own_rdg (R := rR) hown
        refine wp_ret ?_
        try simp only [Exit.then, Exit.inBlock]
        exact ret_tt rfl he68 rfl rfl ⟨⟨A', c', b', by rw [he1, he2], by rw [he2]; exact hrd⟩, hH15.new⟩

set_option linter.unusedSimpArgs false in
set_option maxRecDepth 100000 in
set_option maxHeartbeats 1600000 in
theorem Clone_any (l : List Rn) (n b cap : Nat) (A : Option Addr) (w : World) (hr : RdR w b A n l) (hn : n ≤ 1000000) :
    Calls Tryd.prog 50 #[.slice A n cap] w fun e w' => (∃ v, e = .returned v ∧ OwnR w' w.heap.size v n l) ∧ New w w' := by
  refine calls_args (vl := [Value.slice A n cap]) 8 Tryd.func50 rfl Tryd.ntmps50 (by kernel_rfl) (fun a he => ?_)
  have he0 : Env 8 [(0, Value.slice A n cap)] a := he
  clear he
  have hH := Hp.start w
  refine wp_seq ?_
  refine wp_region_lit ?_
  refine lV (Value.slice none 0 0) he0 rfl rfl (wanted_plain rfl _) (rn_asg rfl (he0.op rfl) w) ?_
  intro a1 he1
  clear he0 a
  refine wpList_nil ?_
  refine then_ok ?_
  cases A with
  | none =>
    refine wp_seq ?_
    refine wp_seq ?_
    refine wp_region_lit ?_
    refine lV (Value.slice none n cap) he1 rfl rfl (wanted_plain rfl _) (rn_mv rfl (he1.op rfl) w) ?_
    intro a2 he2
    clear he1 a1
    refine lV (Value.bool true) he2 rfl rfl (wanted_plain rfl _) (rn_isnil (A := none) rfl (he2.op rfl) (fun _ => rfl) rfl w) ?_
    intro a3 he3
    clear he2 a2
    refine wpList_nil ?_
    refine then_ok ?_
    refine wp_cond_true (he3.op rfl) ?_
    obtain rfl : n = 0 := Nat.eq_zero_of_not_pos (fun h => by obtain ⟨o, ho, _⟩ := hr.2 h; cases ho)
    obtain rfl : l = [] := List.eq_nil_of_length_eq_zero hr.1
    refine wp_seq ?_
    refine wp_region_lit ?_
    refine lV (Value.slice none 0 0) he3 rfl rfl (wanted_plain rfl _) (rn_asg rfl (he3.op rfl) w) ?_
    intro a4 he4
    clear he3 a3
    refine wpList_nil ?_
    refine then_ok ?_
    refine wp_ret ?_
    try simp only [Exit.then, Exit.inBlock]
    exact ret_env rfl he4 rfl ⟨⟨_, rfl, World.ownsRow_nil _ _ _ _⟩, hH.new⟩
  | some ad =>
    refine wp_seq ?_
    refine wp_seq ?_
    refine wp_region_lit ?_
    refine lV (Value.slice (some ad) n cap) he1 rfl rfl (wanted_plain rfl _) (rn_mv rfl (he1.op rfl) w) ?_
    intro a5 he5
    clear he1 a1
    refine lV (Value.bool false) he5 rfl rfl (wanted_plain rfl _) (rn_isnil (A := some ad) rfl (he5.op rfl) (fun _ => rfl) rfl w) ?_
    intro a6 he6
    clear he5 a5
    refine wpList_nil ?_
    refine then_ok ?_
    refine wp_cond_false (he6.op rfl) ?_
    refine wp_skip ?_
    refine then_ok ?_
    refine wp_seq ?_
    refine wp_region_lit ?_
    refine lNew (fun p => .slice (some ⟨p, 0, none⟩) 0 0) he6 hH rfl rfl (wanted_plain rfl _) (rn_bsr0 rfl w) ?_
    intro p7 w7 a8 hn hH7 he8
    clear he6 a6 hH hn
    refine lV (Value.slice (some ad) n cap) he8 rfl rfl (wanted_plain rfl _) (rn_mv rfl (he8.op rfl) w7) ?_
    intro a9 he9
    clear he8 a8
    have hbk := hH7.at (i := 0) rfl
    have hown : w7.ownsRow w.heap.size 67 4 (.slice (some ⟨p7, 0, none⟩) 0 0) 0 (flatG rR []) := ⟨rfl, .inr ⟨p7, 0, #[], rfl, hH7.lo (i := 0) rfl, hbk, Nat.le_refl _, Nat.zero_le _, rfl, rfl⟩⟩
    refine lAppO (R := rR) (l := []) hown (hr.new hH7.new) he9 rfl rfl (wanted_plain rfl _) rfl rfl rfl (by omega) hH7.new.size ?_
    intro vx wx a10 ho2 hgr _ he10
    clear he9 a9
    have hnx : New w wx := Fr.grown hH7.new hgr (fun k hk => .inr (by have h : p7 = k := (by simpa [Value.ownBlock] using hk); rw [← h]; exact hH7.lo (i := 0) rfl))
    rw [Nat.zero_add, List.nil_append] at ho2
    have hHx : Hp w [] wx := ⟨hnx, by simp, by simp⟩
    clear hH7 hown hgr hbk
    refine lV (vx) he10 rfl rfl (wanted_plain rfl _) (rn_asg rfl (he10.op rfl) wx) ?_
    intro a11 he11
    clear he10 a10
    refine wpList_nil ?_
    refine then_ok ?_
    refine wp_ret ?_
    try simp only [Exit.then, Exit.inBlock]
    exact ret_env rfl he11 rfl ⟨⟨_, rfl, ho2⟩, hnx⟩

set_option linter.unusedSimpArgs false in
set_option maxRecDepth 100000 in
set_option maxHeartbeats 1600000 in
theorem Join_any (la lb : List Rn) (na nb ba bb ca cb : Nat) (A B : Option Addr) (w : World) (ha : RdR w ba A na la) (hb : RdR w bb B nb lb) (hoa : ∀ r ∈ la, r.Ok) (hob : ∀ r ∈ lb, r.Ok) (hna : na ≤ 200000) (hnb : nb ≤ 200000) (hT : Tab w) :
    Calls Tryd.prog 37 #[.slice A na ca, .slice B nb cb] w fun e w' => (∃ (A' : Option Addr) (c' b' : Nat), e = .returned (.tuple #[.slice A' (joinO la lb).length c', .int .i64 (joinE la lb)]) ∧ RdR w' b' A' (joinO la lb).length (joinO la lb)) ∧ New w w' := by
  have l1 := ha.1
  have l2 := hb.1
  obtain ⟨ga, hga⟩ : ∃ ga, goodR la = ga := ⟨_, rfl⟩
  obtain ⟨gb, hgb⟩ : ∃ gb, goodR lb = gb := ⟨_, rfl⟩
  refine calls_args (vl := [Value.slice A na ca, Value.slice B nb cb]) 46 Tryd.func37 rfl Tryd.ntmps37 (by kernel_rfl) (fun a he => ?_)
  have he0 : Env 46 [(0, Value.slice A na ca), (1, Value.slice B nb cb)] a := he
  clear he
  have hH := Hp.start w
  refine wp_seq ?_
  refine wp_region_lit ?_
  refine lV (Value.slice none 0 0) he0 rfl rfl (wanted_plain rfl _) (rn_asg rfl (he0.op rfl) w) ?_
  intro a1 he1
  clear he0 a
  refine lV (Value.int .i64 0) he1 rfl rfl (wanted_plain rfl _) (rn_asg rfl (he1.op rfl) w) ?_
  intro a2 he2
  clear he1 a1
  refine wpList_nil ?_
  refine then_ok ?_
  refine wp_seq ?_
  refine wp_region_lit ?_
  refine lV (Value.slice A na ca) he2 rfl rfl (wanted_plain rfl _) (rn_mv rfl (he2.op rfl) w) ?_
  intro a3 he3
  clear he2 a2
  refine lC he3 rfl rfl Tryd.func35 (by kernel_rfl) rfl rfl (wanted_plain rfl _) rfl (hga ▸ counted_any la na ba ca A w (ha.new hH.new) hoa (by omega) (hT.new hH.new)) ?_
  intro w4 a5 hn he5
  have hH4 := hH.call hn
  clear he3 a3 hH hn
  refine lV (Value.tuple #[Value.int .i64 (countR la), Value.bool ga]) he5 rfl rfl (wanted_plain rfl _) (rn_mv rfl (he5.op rfl) w4) ?_
  intro a6 he6
  clear he5 a5
  refine lV (Value.int .i64 (countR la)) he6 rfl rfl (wanted_plain rfl _) (rn_ext rfl (he6.op rfl) rfl w4) ?_
  intro a7 he7
  clear he6 a6
  refine lV (Value.bool ga) he7 rfl rfl (wanted_plain rfl _) (rn_ext rfl (he7.op rfl) rfl w4) ?_
  intro a8 he8
  clear he7 a7
  refine lV (Value.int .i64 (countR la)) he8 rfl rfl (wanted_plain rfl _) (rn_asg rfl (he8.op rfl) w4) ?_
  intro a9 he9
  clear he8 a8
  refine lV (Value.bool ga) he9 rfl rfl (wanted_plain rfl _) (rn_asg rfl (he9.op rfl) w4) ?_
  intro a10 he10
  clear he9 a9
  refine wpList_nil ?_
  refine then_ok ?_
  refine wp_seq ?_
  refine wp_region_lit ?_
  refine lV (Value.slice B nb cb) he10 rfl rfl (wanted_plain rfl _) (rn_mv rfl (he10.op rfl) w4) ?_
  intro a11 he11
  clear he10 a10
  refine lC he11 rfl rfl Tryd.func35 (by kernel_rfl) rfl rfl (wanted_plain rfl _) rfl (hgb ▸ counted_any lb nb bb cb B w4 (hb.new hH4.new) hob (by omega) (hT.new hH4.new)) ?_
  intro w12 a13 hn he13
  have hH12 := hH4.call hn
  clear he11 a11 hH4 hn
  refine lV (Value.tuple #[Value.int .i64 (countR lb), Value.bool gb]) he13 rfl rfl (wanted_plain rfl _) (rn_mv rfl (he13.op rfl) w12) ?_
  intro a14 he14
  clear he13 a13
  refine lV (Value.int .i64 (countR lb)) he14 rfl rfl (wanted_plain rfl _) (rn_ext rfl (he14.op rfl) rfl w12) ?_
  intro a15 he15
  clear he14 a14
  refine lV (Value.bool gb) he15 rfl rfl (wanted_plain rfl _) (rn_ext rfl (he15.op rfl) rfl w12) ?_
  intro a16 he16
  clear he15 a15
  refine lV (Value.int .i64 (countR lb)) he16 rfl rfl (wanted_plain rfl _) (rn_asg rfl (he16.op rfl) w12) ?_
  intro a17 he17
  clear he16 a16
  refine lV (Value.bool gb) he17 rfl rfl (wanted_plain rfl _) (rn_asg rfl (he17.op rfl) w12) ?_
  intro a18 he18
  clear he17 a17
  refine wpList_nil ?_
  refine then_ok ?_
  have he19 : Env 46 [(9, Value.bool gb), (8, Value.int .i64 (countR lb)), (7, Value.bool ga), (6, Value.int .i64 (countR la)), (5, Value.int .i64 0), (4, Value.slice none 0 0), (0, Value.slice A na ca), (1, Value.slice B nb cb)] a18 := he18.mem ⟨rfl, rfl, rfl, rfl, rfl, rfl, rfl, rfl, trivial⟩
  clear he18
  as_aux_lemma =>
    cases ga with
    | false =>
      refine wp_seq ?_
      refine wp_seq ?_
      refine wp_region_lit ?_
      refine lV (Value.bool false) he19 rfl rfl (wanted_plain rfl _) (rn_mv rfl (he19.op rfl) w12) ?_
      intro a20 he20
      clear he19 a18
      refine lV (Value.bool true) he20 rfl rfl (wanted_plain rfl _) (rn_not (b := false) rfl (he20.op rfl) w12) ?_
      intro a21 he21
      clear he20 a20
      refine lV (Value.bool true) he21 rfl rfl (wanted_plain rfl _) (rn_mv rfl (he21.op rfl) w12) ?_
      intro a22 he22
      clear he21 a21
      refine lSkip he22 rfl rfl (he22.wantNot rfl rfl rfl rfl rfl rfl) ?_
      intro a23 he23
      clear he22 a22
      refine lSkip he23 rfl rfl (he23.wantNot rfl rfl rfl rfl rfl rfl) ?_
      intro a24 he24
      clear he23 a23
      refine lV (Value.bool true) he24 rfl rfl (wanted_plain rfl _) (rn_pk rfl (he24.op rfl) (he24.op rfl) w12) ?_
      intro a25 he25
      clear he24 a24
      refine wpList_nil ?_
      refine then_ok ?_
      refine wp_cond_true (he25.op rfl) ?_
      refine wp_seq ?_
      refine wp_region_lit ?_
      refine lV (Value.slice none 0 0) he25 rfl rfl (wanted_plain rfl _) (rn_asg rfl (he25.op rfl) w12) ?_
      intro a26 he26
      clear he25 a25
      refine lV (Value.int .i64 12) he26 rfl rfl (wanted_plain rfl _) (rn_asg rfl (he26.op rfl) w12) ?_
      intro a27 he27
      clear he26 a26
      refine wpList_nil ?_
      refine then_ok ?_
      have he1 : joinE la lb = 12 := by rw [joinE, if_pos (.inl hga)]
      have he2 : joinO la lb = [] := by rw [joinO, if_neg (by rw [he1]; decide)]
      refine wp_ret ?_
      try simp only [Exit.then, Exit.inBlock]
      exact ret_tt rfl he27 rfl rfl ⟨⟨none, 0, 0, by rw [he1, he2]; rfl, by rw [he2]; exact RdG.nil _ _ _⟩, hH12.new⟩
    | true =>
      cases gb with
      | false =>
        refine wp_seq ?_
        refine wp_seq ?_
        refine wp_region_lit ?_
        refine lV (Value.bool true) he19 rfl rfl (wanted_plain rfl _) (rn_mv rfl (he19.op rfl) w12) ?_
        intro a28 he28
        clear he19 a18
        refine lV (Value.bool false) he28 rfl rfl (wanted_plain rfl _) (rn_not (b := true) rfl (he28.op rfl) w12) ?_
        intro a29 he29
        clear he28 a28
        refine lV (Value.bool false) he29 rfl rfl (wanted_plain rfl _) (rn_mv rfl (he29.op rfl) w12) ?_
        intro a30 he30
        clear he29 a29
        refine lV (Value.bool false) he30 rfl rfl (he30.want rfl rfl rfl rfl rfl) (rn_mv rfl (he30.op rfl) w12) ?_
        intro a31 he31
        clear he30 a30
        refine lV (Value.bool true) he31 rfl rfl (he31.want rfl rfl rfl rfl rfl) (rn_not (b := false) rfl (he31.op rfl) w12) ?_
        intro a32 he32
        clear he31 a31
        refine lV (Value.bool true) he32 rfl rfl (wanted_plain rfl _) (rn_pk0 rfl (he32.op rfl) (he32.op rfl) w12) ?_
        intro a33 he33
        clear he32 a32
        refine wpList_nil ?_
        refine then_ok ?_
        refine wp_cond_true (he33.op rfl) ?_
        refine wp_seq ?_
        refine wp_region_lit ?_
        refine lV (Value.slice none 0 0) he33 rfl rfl (wanted_plain rfl _) (rn_asg rfl (he33.op rfl) w12) ?_
        intro a34 he34
        clear he33 a33
        refine lV (Value.int .i64 12) he34 rfl rfl (wanted_plain rfl _) (rn_asg rfl (he34.op rfl) w12) ?_
        intro a35 he35
        clear he34 a34
        refine wpList_nil ?_
        refine then_ok ?_
        have he1 : joinE la lb = 12 := by rw [joinE, if_pos (.inr hgb)]
        have he2 : joinO la lb = [] := by rw [joinO, if_neg (by rw [he1]; decide)]
        refine wp_ret ?_
        try simp only [Exit.then, Exit.inBlock]
        exact ret_tt rfl he35 rfl rfl ⟨⟨none, 0, 0, by rw [he1, he2]; rfl, by rw [he2]; exact RdG.nil _ _ _⟩, hH12.new⟩
      | true =>
        refine wp_seq ?_
        refine wp_seq ?_
        refine wp_region_lit ?_
        refine lV (Value.bool true) he19 rfl rfl (wanted_plain rfl _) (rn_mv rfl (he19.op rfl) w12) ?_
        intro a36 he36
        clear he19 a18
        refine lV (Value.bool false) he36 rfl rfl (wanted_plain rfl _) (rn_not (b := true) rfl (he36.op rfl) w12) ?_
        intro a37 he37
        clear he36 a36
        refine lV (Value.bool false) he37 rfl rfl (wanted_plain rfl _) (rn_mv rfl (he37.op rfl) w12) ?_
        intro a38 he38
        clear he37 a37
        refine lV (Value.bool true) he38 rfl rfl (he38.want rfl rfl rfl rfl rfl) (rn_mv rfl (he38.op rfl) w12) ?_
        intro a39 he39
        clear he38 a38
        refine lV (Value.bool false) he39 rfl rfl (he39.want rfl rfl rfl rfl rfl) (rn_not (b := true) rfl (he39.op rfl) w12) ?_
        intro a40 he40
        clear he39 a39
        refine lV (Value.bool false) he40 rfl rfl (wanted_plain rfl _) (rn_pk0 rfl (he40.op rfl) (he40.op rfl) w12) ?_
        intro a41 he41
        clear he40 a40
        refine wpList_nil ?_
        refine then_ok ?_
        refine wp_cond_false (he41.op rfl) ?_
        refine wp_skip ?_
        refine then_ok ?_
        have hca := count_len hga
        have hcb := count_len hgb
        have hgd : ¬ (goodR la = false ∨ goodR lb = false) := by rw [hga, hgb]; simp
        by_cases hbig : 100000 < countR la + countR lb
        · skip
          refine wp_seq ?_
          refine wp_seq ?_
          refine wp_region_lit ?_
          refine lV (Value.int .i64 (countR la)) he41 rfl rfl (wanted_plain rfl _) (rn_mv rfl (he41.op rfl) w12) ?_
          intro a42 he42
          clear he41 a41
          refine lV (Value.int .i64 (countR lb)) he42 rfl rfl (wanted_plain rfl _) (rn_mv rfl (he42.op rfl) w12) ?_
          intro a43 he43
          clear he42 a42
          refine lV (Value.int .i64 (countR la + countR lb)) he43 rfl rfl (wanted_plain rfl _) (rn_add1 rfl (he43.op rfl) (he43.op rfl) (by rw [IntWalk.i64_in _ ⟨by omega, by omega⟩]) w12) ?_
          intro a44 he44
          clear he43 a43
          refine lV (Value.bool true) he44 rfl rfl (wanted_plain rfl _) (rn_gtr rfl (he44.op rfl) (he44.op rfl) (decide_eq_true (by omega)) w12) ?_
          intro a45 he45
          clear he44 a44
          refine wpList_nil ?_
          refine then_ok ?_
          refine wp_cond_true (he45.op rfl) ?_
          refine wp_seq ?_
          refine wp_region_lit ?_
          refine lV (Value.slice none 0 0) he45 rfl rfl (wanted_plain rfl _) (rn_asg rfl (he45.op rfl) w12) ?_
          intro a46 he46
          clear he45 a45
          refine lV (Value.int .i64 5) he46 rfl rfl (wanted_plain rfl _) (rn_asg rfl (he46.op rfl) w12) ?_
          intro a47 he47
          clear he46 a46
          refine wpList_nil ?_
          refine then_ok ?_
          have he1 : joinE la lb = 5 := by rw [joinE, if_neg hgd, if_pos hbig]
          have he2 : joinO la lb = [] := by rw [joinO, if_neg (by rw [he1]; decide)]
          refine wp_ret ?_
          try simp only [Exit.then, Exit.inBlock]
          exact ret_tt rfl he47 rfl rfl ⟨⟨none, 0, 0, by rw [he1, he2]; rfl, by rw [he2]; exact RdG.nil _ _ _⟩, hH12.new⟩
        · skip
          refine wp_seq ?_
          refine wp_seq ?_
          refine wp_region_lit ?_
          refine lV (Value.int .i64 (countR la)) he41 rfl rfl (wanted_plain rfl _) (rn_mv rfl (he41.op rfl) w12) ?_
          intro a48 he48
          clear he41 a41
          refine lV (Value.int .i64 (countR lb)) he48 rfl rfl (wanted_plain rfl _) (rn_mv rfl (he48.op rfl) w12) ?_
          intro a49 he49
          clear he48 a48
          refine lV (Value.int .i64 (countR la + countR lb)) he49 rfl rfl (wanted_plain rfl _) (rn_add1 rfl (he49.op rfl) (he49.op rfl) (by rw [IntWalk.i64_in _ ⟨by omega, by omega⟩]) w12) ?_
          intro a50 he50
          clear he49 a49
          refine lV (Value.bool false) he50 rfl rfl (wanted_plain rfl _) (rn_gtr rfl (he50.op rfl) (he50.op rfl) (decide_eq_false (by omega)) w12) ?_
          intro a51 he51
          clear he50 a50
          refine wpList_nil ?_
          refine then_ok ?_
          refine wp_cond_false (he51.op rfl) ?_
          refine wp_skip ?_
          refine then_ok ?_
          refine wp_seq ?_
          refine wp_region_lit ?_
          refine lV (Value.slice A na ca) he51 rfl rfl (wanted_plain rfl _) (rn_mv rfl (he51.op rfl) w12) ?_
          intro a52 he52
          clear he51 a51
          have hbs := hH12.new.size
          refine lCx he52 rfl rfl Tryd.func50 (by kernel_rfl) rfl rfl (wanted_plain rfl _) rfl (Clone_any la na ba ca A w12 (ha.new hH12.new) (by omega)) ?_
          rintro _ w53 ⟨⟨vx, rfl, hown⟩, hn⟩
          refine ⟨_, rfl, ?_⟩
          intro a54 he54
          have hH53 := hH12.call hn
          clear he52 a52 hH12
          clear hn
          refine lV (vx) he54 rfl rfl (wanted_plain rfl _) (rn_asg rfl (he54.op rfl) w53) ?_
          intro a55 he55
          clear he54 a54
          refine wpList_nil ?_
          refine then_ok ?_
          have he56 : Env 46 [(10, vx), (5, Value.int .i64 0), (4, Value.slice none 0 0), (0, Value.slice A na ca), (1, Value.slice B nb cb)] a55 := he55.mem ⟨rfl, rfl, rfl, rfl, rfl, trivial⟩
          clear he55
          refine wp_seq ?_
          refine wp_seq ?_
          refine wp_region_lit ?_
          refine lV (Value.slice B nb cb) he56 rfl rfl (wanted_plain rfl _) (rn_mv rfl (he56.op rfl) w53) ?_
          intro a57 he57
          clear he56 a55
          refine lV (Value.int .i64 (nb : Nat)) he57 rfl rfl (wanted_plain rfl _) (rn_lenR rfl (he57.op rfl) w53) ?_
          intro a58 he58
          clear he57 a57
          refine lV (Value.int .i64 0) he58 rfl rfl (wanted_plain rfl _) (rn_mv rfl (he58.op rfl) w53) ?_
          intro a59 he59
          clear he58 a58
          refine wpList_nil ?_
          refine then_ok ?_
          refine wp_block ?_
          have hGa := good_all hga
          have hGb := good_all hgb
          have hown0 : OwnR w53 w.heap.size vx ((lb.take 0).foldl addR la).length ((lb.take 0).foldl addR la) := by
            rw [List.take_zero, List.foldl_nil, l1]; exact own_base hown (fun k hk => Nat.le_trans hbs (own_blk hown k hk))
          clear hown
          refine loop_nat (fun q a w' => ∃ (k : Nat) (vr : Value), q = nb - k ∧ k ≤ nb ∧ (∀ q ∈ ((lb.take k).foldl addR la), 1 ≤ q.n ∧ q.n ≤ 100000 * ((k : Int) + 1)) ∧ Env 46 [(0, Value.slice A na ca), (1, Value.slice B nb cb), (10, vr), (35, Value.slice B nb cb), (36, Value.int .i64 (nb : Nat)), (37, Value.int .i64 (k : Int))] a ∧ Hp w [] w' ∧ OwnR w' w.heap.size vr ((lb.take k).foldl addR la).length ((lb.take k).foldl addR la)) nb ⟨0, vx, by omega, by omega, fun q hq => by have := hGa q (by simpa using hq); omega, he59.mem ⟨rfl, rfl, rfl, rfl, rfl, rfl, trivial⟩, hH53, hown0⟩ ?_
          clear he59 hH53
          rintro q a60 w60 ⟨k, vr, rfl, hk, hbd, he60, hH60, hown⟩
          as_aux_lemma =>
            by_cases hkn : k < nb
            · skip
              have hT61 := hT.new hH60.new
              have hR61 := hH60.new
              replace hb := hb.new hH60.new
              have hH61 := Hp.start w60
              clear hH60 hT 
              refine wp_seq ?_
              refine wp_region_lit ?_
              refine lV (Value.bool true) he60 rfl rfl (wanted_plain rfl _) (rn_lss rfl (he60.op rfl) (he60.op rfl) (decide_eq_true (by omega)) w60) ?_
              intro a62 he62
              clear he60 a60
              refine wpList_nil ?_
              refine then_ok ?_
              refine wp_seq ?_
              refine wp_cond_true (he62.op rfl) ?_
              refine wp_skip ?_
              refine then_ok ?_
              obtain ⟨o0, rfl⟩ := hb.base (by omega)
              obtain ⟨c, hc⟩ : ∃ c, lb[k]? = some c := ⟨_, List.getElem?_eq_getElem (by have := hb.1; omega)⟩
              have hcl : c ∈ lb := List.mem_of_getElem? hc
              have hcg := hGb c hcl
              refine wp_seq ?_
              refine wp_block ?_
              refine wp_seq ?_
              refine wp_region_lit ?_
              refine lV (Value.pointer (some ⟨bb, o0 + k * 4, none⟩)) he62 rfl rfl (wanted_plain rfl _) (rn_idxR (i := k) rfl (he62.op rfl) (he62.op rfl) hkn (by rw [addr_add]) w60) ?_
              intro a63 he63
              clear he62 a62
              refine lV (Rn.v c) he63 rfl rfl (wanted_plain rfl _) (rn_sR (i := k) rfl (he63.op rfl) (hb.new hH61.new) rfl hc) ?_
              intro a64 he64
              clear he63 a63
              refine lNew (fun p => .pointer (some ⟨p, 0, none⟩)) he64 hH61 rfl rfl (wanted_plain rfl _) (rn_allocR rfl w60) ?_
              intro p65 w65 a66 hn hH65 he66
              clear he64 a64 hH61 hn
              refine lSetV 0 (Rn.cs c) (cs := (Rn.cs c)) he66 hH65 rfl (wanted_plain rfl _) rfl rfl rfl rfl rfl (by kernel_rfl) (by kernel_rfl) (by kernel_rfl) rfl ?_
              intro w67 a68 hH67 he68
              replace hH67 : Hp w60 [⟨p65, 67, (Rn.cs c)⟩] w67 := hH67
              clear he66 a66 hH65
              refine wpList_nil ?_
              refine then_ok ?_
              refine wp_region_lit ?_
              refine lV (vr) he68 rfl rfl (wanted_plain rfl _) (rn_mv rfl (he68.op rfl) w67) ?_
              intro a69 he69
              clear he68 a68
              refine lV (Rn.v c) he69 rfl rfl (wanted_plain rfl _) (rn_loadR rfl (he69.op rfl) (hH67.at (i := 0) rfl)) ?_
              intro a70 he70
              clear he69 a69
              have hH71 := hH67.tail rfl
              clear hH67
              have hfl := fold_len (lb.take k) la
              have htl : (lb.take k).length = k := by rw [List.length_take]; omega
              refine lCx he70 rfl rfl Tryd.func38 (by kernel_rfl) rfl rfl (wanted_plain rfl _) rfl (withRun_any w.heap.size vr ((lb.take k).foldl addR la).length ((lb.take k).foldl addR la) c w67 (own_fr hown hH71.new (fun _ _ h => h)) (fun q hq => by have h1 := hbd q (last_mem hq); omega) (by omega) (New.trans hR61 hH71.new).size) ?_
              rintro _ w72 ⟨vy, rfl, hox, hf⟩
              refine ⟨_, rfl, ?_⟩
              intro a73 he73
              clear he70 a70
              have hH74 : Hp w [] w72 := ⟨new_low (Fr.refl _ _) (New.trans hR61 hH71.new) hf, by simp, by simp⟩
              clear hf hown hH71
              refine lV (vy) he73 rfl rfl (wanted_plain rfl _) (rn_asg rfl (he73.op rfl) w72) ?_
              intro a75 he75
              clear he73 a73
              refine wpList_nil ?_
              refine block_ok ?_
              refine then_ok ?_
              refine wp_region_lit ?_
              refine lV (Value.int .i64 ((k + 1 : Nat) : Int)) he75 rfl rfl (wanted_plain rfl _) (rn_add1 rfl (he75.op rfl) (he75.op rfl) (by rw [IntWalk.i64_in _ ⟨by omega, by omega⟩]; rfl) w72) ?_
              intro a76 he76
              clear he75 a75
              refine lV (Value.int .i64 ((k + 1 : Nat) : Int)) he76 rfl rfl (wanted_plain rfl _) (rn_mv rfl (he76.op rfl) w72) ?_
              intro a77 he77
              clear he76 a76
              refine wpList_nil ?_
              refine then_ok ?_
              have htk : (lb.take (k + 1)).foldl addR la = addR ((lb.take k).foldl addR la) c := by rw [take_snocR lb k c hc, fold_snoc]
              refine ⟨nb - (k + 1), by omega, k + 1, vy, rfl, by omega, fun q hq => ?_, he77.mem ⟨rfl, rfl, rfl, rfl, rfl, rfl, trivial⟩, hH74, by rw [htk]; exact hox⟩
              rw [htk] at hq
              have := addR_le hbd hcg.1 hcg.2.1 (by omega) q hq
              rw [Int.natCast_add]; omega
            · skip
              refine wp_seq ?_
              refine wp_region_lit ?_
              refine lV (Value.bool false) he60 rfl rfl (wanted_plain rfl _) (rn_lss rfl (he60.op rfl) (he60.op rfl) (decide_eq_false (by omega)) w60) ?_
              intro a78 he78
              clear he60 a60
              refine wpList_nil ?_
              refine then_ok ?_
              refine wp_seq ?_
              refine wp_cond_false (he78.op rfl) ?_
              refine wp_exit ?_
              simp only [Exit.then, Exit.inBlock, if_true]
              rw [List.take_of_length_le (by omega)] at hown
              have he1 : joinE la lb = 0 := by rw [joinE, if_neg hgd, if_neg hbig]
              have he2 : joinO la lb = lb.foldl addR la := by rw [joinO, if_pos he1]
              refine wp_seq ?_
              refine wp_region_lit ?_
              refine lV (vr) he78 rfl rfl (wanted_plain rfl _) (rn_mv rfl (he78.op rfl) w60) ?_
              intro a79 he79
              clear he78 a78
              refine lV (vr) he79 rfl rfl (wanted_plain rfl _) (rn_asg rfl (he79.op rfl) w60) ?_
              intro a80 he80
              clear he79 a79
              refine lV (Value.int .i64 0) he80 rfl rfl (wanted_plain rfl _) (rn_asg rfl (he80.op rfl) w60) ?_
              intro a81 he81
              clear he80 a80
              refine wpList_nil ?_
              refine then_ok ?_
              obtain ⟨b', A', c', rfl, -, hrd⟩ := own_rdg (R := rR) hown
              refine wp_ret ?_
              try simp only [Exit.then, Exit.inBlock]
              exact ret_tt rfl he81 rfl rfl ⟨⟨A', c', b', by rw [he1, he2], by rw [he2]; exact hrd⟩, hH60.new⟩

end Go.Proofs.YtaiijndldngnkaaDoor
