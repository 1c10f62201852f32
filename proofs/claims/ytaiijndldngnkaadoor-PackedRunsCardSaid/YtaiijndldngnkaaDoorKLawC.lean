/-
  PackedLongs.
-/
import Derived.Test.YtaiijndldngnkaaDoorKLawB
namespace Go.Proofs.YtaiijndldngnkaaDoor
open Go.RowKit

theorem made_flat (n : Nat) : (madeCells zeroCe.cs (n * 16)).toList = flatC (List.replicate n zeroCe) := by
  apply List.ext_getElem?
  intro j
  by_cases h : j < n * 16
  · have hi : j / 16 < n := by omega
    have e := flatC_at (List.replicate n zeroCe) (j / 16) (j % 16) (by simpa using hi) (by omega)
    rw [show j / 16 * 16 + j % 16 = j by omega] at e
    rw [e, List.getElem_replicate]
    have hj : j % 16 < 16 := by omega
    have hz : zeroCe.cs.size = 16 := rfl
    rw [Array.getElem?_toList, Array.getElem?_eq_getElem (by rw [size_madeCells]; exact h)]
    simp only [madeCells, Array.getElem_map, Array.getElem_range, hz]
    rw [getElem!_pos zeroCe.cs (j % 16) (by rw [hz]; exact hj)]
    have : zeroCe.ls = zeroCe.cs.toList := rfl
    rw [this, Array.getElem?_toList, Array.getElem?_eq_getElem (by rw [hz]; exact hj)]
  · rw [List.getElem?_eq_none (by rw [Array.length_toList, size_madeCells]; omega), List.getElem?_eq_none (by rw [flatC_len, List.length_replicate]; omega)]
theorem rep_set (N k : Nat) (c : Ce) (h : k < N) : (List.replicate k c ++ List.replicate (N - k) zeroCe).set k c = List.replicate (k + 1) c ++ List.replicate (N - (k + 1)) zeroCe := by
  rw [List.set_append_right _ _ (by simp), List.length_replicate, Nat.sub_self, show N - k = (N - (k + 1)) + 1 by omega, List.replicate_succ, List.set_cons_zero, List.replicate_succ', List.append_assoc]
  rfl
theorem runs_ok {l : List Rn} (h : goodR l = true) : ∀ r ∈ l, r.Ok := fun r hr => by
  obtain ⟨h1, h2, h3⟩ := good_all h r hr
  exact ⟨by omega, by omega, good_ok h3⟩
theorem pack_facts {l : List Ce} (h : packE l = 0) (hp : ∀ c ∈ l, c.p.Ok) : packO l = packL l ∧ goodR (packL l) = true ∧ countR (packL l) = (l.length : Int) ∧ cellsR (packL l) = l ∧ (packL l).length ≤ l.length := by
  obtain ⟨h1, h2⟩ := packE_zero h
  obtain ⟨g1, g2, g3⟩ := pack_good h2 hp h1
  exact ⟨packO_eq h, by rw [goodR, g1]; rfl, by rw [countR, g1]; rfl, g2, g3⟩
section
variable {ops : Array Oper} {Q : Exit → Act → World → Prop} {a : Act} {w : World} {rest : List Oper} {o : Oper} {N k : Nat} {F : List (Nat × Value)}
theorem lStO {x y : Operand} {base g n cap k : Nat} {l : List Ce} {c : Ce} (he : Env N F a) (hown : OwnC w base (.slice (some ⟨g, 0, none⟩) n cap) n l) (hk : k < n) (hgd : o.guard = none) (hd : o.dst = none) (ho : o.op = .store 30 x y) (hx : evO F x = some (.pointer (some ⟨g, k * 16, none⟩))) (hy : evO F y = some c.v)
    (next : ∀ w' a', OwnC w' base (.slice (some ⟨g, 0, none⟩) n cap) n (l.set k c) → Fr (fun k => k = g) w w' → Env N F a' → wpList Tryd.prog ops Q rest a' w') : wpList Tryd.prog ops Q (o :: rest) a w :=
  stO hgd x y ho base g n cap k l c (he.op hx) (he.op hy) hown hk (fun w' h1 h2 _ => by rw [hd]; exact next _ _ h1 h2 (he.put0 _))
/-- A slice of so many zero cells. -/
theorem lMkN {x y : Operand} {base c : Nat} (he : Env N F a) (hd : o.dst = some k) (hk : Nat.blt k N = true) (hw : Region.wanted o (yielded ops a.tmps) = true)
    (ho : o.op = .makeSlice 42 x y) (hx : evO F x = some (.int .i64 c)) (hy : evO F y = some (.int .i64 c)) (hc : c ≤ 1000000) (hbase : base ≤ w.heap.size)
    (next : ∀ w' a', OwnC w' base (.slice (some ⟨w.heap.size, 0, none⟩) c c) c (List.replicate c zeroCe) → New w w' → Env N ((k, .slice (some ⟨w.heap.size, 0, none⟩) c c) :: F) a' → wpList Tryd.prog ops Q rest a' w') : wpList Tryd.prog ops Q (o :: rest) a w := by
  obtain ⟨i, hi, hz, hsize, hby⟩ := info_parts infoC
  have hrun := run_make (P := Tryd.prog) w 42 30 i _ Tryd.underlying42 hi hz .i64 .i64 (c : Int) (c : Int) (by omega) (by omega) (by rw [hby]; omega) (by omega)
  rw [Int.toNat_natCast, hsize] at hrun
  have hown : OwnC (w.alloc (.cells (madeCells zeroCe.cs (c * 16)) 30)) base (.slice (some ⟨w.heap.size, 0, none⟩) c c) c (List.replicate c zeroCe) := by
    refine ⟨by rw [flatG_len, List.length_replicate]; rfl, .inr ⟨w.heap.size, c, madeCells zeroCe.cs (c * 16), rfl, hbase, Blk.new w _ _, Nat.le_refl _, by unfold maxLen; omega, size_madeCells _ _, ?_⟩⟩
    rw [made_flat, List.take_of_length_le (by rw [flatC_len, List.length_replicate]; exact Nat.le_refl _)]
    rfl
  refine wpList_step fun K hK => ?_
  rw [if_pos hw]
  unfold Oper.wp execOp
  simp only [ho, he.op hx, he.op hy, Sem.run_bind, hrun, Result.andThen_ok, Sem.run_pure]
  exact hK _ _ (by rw [hd]; exact next _ _ hown (New.alloc _) (he.put hk _))
end
section
variable {ρ : Operand → Value} {o : Oper} {x y : Operand}
theorem rn_bCo {a b : Int} (h : o.op = .build 25 #[(0, x), (1, y)]) (hx : ρ x = .int .i64 a) (hy : ρ y = .int .u8 b) (w : World) : (execOp ρ o).run Tryd.prog w = .ok (.value (Co.v ⟨a, b, 0, 0, 0⟩)) w := by
  unfold execOp
  simp only [h, List.map_toArray, List.map_cons, List.map_nil, hx, hy]
  kernel_rfl
theorem rn_bPn {c : Co} (h : o.op = .build 28 #[(0, x)]) (hx : ρ x = c.v) (w : World) : (execOp ρ o).run Tryd.prog w = .ok (.value (Pn.v ⟨c, zeroC, 0⟩)) w := by
  unfold execOp
  simp only [h, List.map_toArray, List.map_cons, List.map_nil, hx]
  kernel_rfl
theorem rn_bC23 {d : Int} {q : Pn} (h : o.op = .build 30 #[(2, x), (3, y)]) (hx : ρ x = .int .i64 d) (hy : ρ y = q.v) (w : World) : (execOp ρ o).run Tryd.prog w = .ok (.value (Ce.v ⟨0, 0, 0, 0, d, q⟩)) w := by
  unfold execOp
  simp only [h, List.map_toArray, List.map_cons, List.map_nil, hx, hy]
  kernel_rfl
end

set_option linter.unusedSimpArgs false in
set_option maxRecDepth 100000 in
set_option maxHeartbeats 1600000 in
theorem packedLongs_walk (many ix at_ : Int) (hx0 : 0 ≤ ix) (hx1 : ix ≤ 255) (w : World) (hT : Tab w) :
    Calls Tryd.prog 7 #[.int .i64 many, .int .u8 ix, .int .i64 at_] w fun e w' => e = .returned (.bool true) ∧ Below w.heap.size w w' := by
  obtain ⟨cx, hcx⟩ : ∃ cx : Ce, (⟨0, 0, 0, 0, 1, ⟨⟨1, ix, 0, 0, 0⟩, zeroC, 0⟩⟩ : Ce) = cx := ⟨_, rfl⟩
  have hcp : cx.p.Ok := by rw [← hcx]; exact ⟨⟨by simp, by simp, hx0, hx1, by simp, by simp, by simp, by simp, by simp, by simp⟩, zeroC_ok, by simp, by simp⟩
  refine calls_args (vl := [Value.int .i64 many, Value.int .u8 ix, Value.int .i64 at_]) 71 Tryd.func7 rfl Tryd.ntmps7 (by kernel_rfl) (fun a he => ?_)
  have he0 : Env 71 [(0, Value.int .i64 many), (1, Value.int .u8 ix), (2, Value.int .i64 at_)] a := he
  clear he
  have hH := Hp.start w
  refine wp_seq ?_
  refine wp_region_lit ?_
  refine lV (Value.bool false) he0 rfl rfl (wanted_plain rfl _) (rn_asg rfl (he0.op rfl) w) ?_
  intro a1 he1
  clear he0 a
  refine wpList_nil ?_
  refine then_ok ?_
  by_cases h1 : many < 99998
  · skip
    refine wp_seq ?_
    refine wp_seq ?_
    refine wp_region_lit ?_
    refine lV (Value.int .i64 many) he1 rfl rfl (wanted_plain rfl _) (rn_mv rfl (he1.op rfl) w) ?_
    intro a2 he2
    clear he1 a1
    refine lV (Value.bool true) he2 rfl rfl (wanted_plain rfl _) (rn_lss rfl (he2.op rfl) (he2.op rfl) (decide_eq_true (by omega)) w) ?_
    intro a3 he3
    clear he2 a2
    refine lV (Value.bool true) he3 rfl rfl (wanted_plain rfl _) (rn_mv rfl (he3.op rfl) w) ?_
    intro a4 he4
    clear he3 a3
    refine lSkip he4 rfl rfl (he4.wantNot rfl rfl rfl rfl rfl rfl) ?_
    intro a5 he5
    clear he4 a4
    refine lSkip he5 rfl rfl (he5.wantNot rfl rfl rfl rfl rfl rfl) ?_
    intro a6 he6
    clear he5 a5
    refine lV (Value.bool true) he6 rfl rfl (wanted_plain rfl _) (rn_pk rfl (he6.op rfl) (he6.op rfl) w) ?_
    intro a7 he7
    clear he6 a6
    refine wpList_nil ?_
    refine then_ok ?_
    refine wp_cond_true (he7.op rfl) ?_
    refine wp_seq ?_
    refine wp_region_lit ?_
    refine lC he7 rfl rfl Tryd.func11 (by kernel_rfl) rfl rfl (wanted_plain rfl _) rfl (known_any w (hT.new hH.new)) ?_
    intro w8 a9 hn he9
    have hH8 := hH.call hn
    clear he7 a7 hH hn
    refine lV (Value.bool true) he9 rfl rfl (wanted_plain rfl _) (rn_asg rfl (he9.op rfl) w8) ?_
    intro a10 he10
    clear he9 a9
    refine wpList_nil ?_
    refine then_ok ?_
    refine wp_ret ?_
    try simp only [Exit.then, Exit.inBlock]
    exact ret_env rfl he10 rfl ⟨rfl, hH8.new.new_below⟩
  by_cases h2 : 100002 < many
  · skip
    refine wp_seq ?_
    refine wp_seq ?_
    refine wp_region_lit ?_
    refine lV (Value.int .i64 many) he1 rfl rfl (wanted_plain rfl _) (rn_mv rfl (he1.op rfl) w) ?_
    intro a11 he11
    clear he1 a1
    refine lV (Value.bool false) he11 rfl rfl (wanted_plain rfl _) (rn_lss rfl (he11.op rfl) (he11.op rfl) (decide_eq_false (by omega)) w) ?_
    intro a12 he12
    clear he11 a11
    refine lV (Value.bool false) he12 rfl rfl (wanted_plain rfl _) (rn_mv rfl (he12.op rfl) w) ?_
    intro a13 he13
    clear he12 a12
    refine lV (Value.int .i64 many) he13 rfl rfl (he13.want rfl rfl rfl rfl rfl) (rn_mv rfl (he13.op rfl) w) ?_
    intro a14 he14
    clear he13 a13
    refine lV (Value.bool true) he14 rfl rfl (he14.want rfl rfl rfl rfl rfl) (rn_gtr rfl (he14.op rfl) (he14.op rfl) (decide_eq_true (by omega)) w) ?_
    intro a15 he15
    clear he14 a14
    refine lV (Value.bool true) he15 rfl rfl (wanted_plain rfl _) (rn_pk0 rfl (he15.op rfl) (he15.op rfl) w) ?_
    intro a16 he16
    clear he15 a15
    refine wpList_nil ?_
    refine then_ok ?_
    refine wp_cond_true (he16.op rfl) ?_
    refine wp_seq ?_
    refine wp_region_lit ?_
    refine lC he16 rfl rfl Tryd.func11 (by kernel_rfl) rfl rfl (wanted_plain rfl _) rfl (known_any w (hT.new hH.new)) ?_
    intro w17 a18 hn he18
    have hH17 := hH.call hn
    clear he16 a16 hH hn
    refine lV (Value.bool true) he18 rfl rfl (wanted_plain rfl _) (rn_asg rfl (he18.op rfl) w17) ?_
    intro a19 he19
    clear he18 a18
    refine wpList_nil ?_
    refine then_ok ?_
    refine wp_ret ?_
    try simp only [Exit.then, Exit.inBlock]
    exact ret_env rfl he19 rfl ⟨rfl, hH17.new.new_below⟩
  · skip
    refine wp_seq ?_
    refine wp_seq ?_
    refine wp_region_lit ?_
    refine lV (Value.int .i64 many) he1 rfl rfl (wanted_plain rfl _) (rn_mv rfl (he1.op rfl) w) ?_
    intro a20 he20
    clear he1 a1
    refine lV (Value.bool false) he20 rfl rfl (wanted_plain rfl _) (rn_lss rfl (he20.op rfl) (he20.op rfl) (decide_eq_false (by omega)) w) ?_
    intro a21 he21
    clear he20 a20
    refine lV (Value.bool false) he21 rfl rfl (wanted_plain rfl _) (rn_mv rfl (he21.op rfl) w) ?_
    intro a22 he22
    clear he21 a21
    refine lV (Value.int .i64 many) he22 rfl rfl (he22.want rfl rfl rfl rfl rfl) (rn_mv rfl (he22.op rfl) w) ?_
    intro a23 he23
    clear he22 a22
    refine lV (Value.bool false) he23 rfl rfl (he23.want rfl rfl rfl rfl rfl) (rn_gtr rfl (he23.op rfl) (he23.op rfl) (decide_eq_false (by omega)) w) ?_
    intro a24 he24
    clear he23 a23
    refine lV (Value.bool false) he24 rfl rfl (wanted_plain rfl _) (rn_pk0 rfl (he24.op rfl) (he24.op rfl) w) ?_
    intro a25 he25
    clear he24 a24
    refine wpList_nil ?_
    refine then_ok ?_
    refine wp_cond_false (he25.op rfl) ?_
    refine wp_skip ?_
    refine then_ok ?_
    obtain ⟨N, rfl⟩ : ∃ N : Nat, many = N := ⟨many.toNat, by omega⟩
    refine wp_seq ?_
    refine wp_region_lit ?_
    refine lV (Value.int .u8 ix) he25 rfl rfl (wanted_plain rfl _) (rn_mv rfl (he25.op rfl) w) ?_
    intro a26 he26
    clear he25 a25
    refine lV (Co.v ⟨1, ix, 0, 0, 0⟩) he26 rfl rfl (wanted_plain rfl _) (rn_bCo rfl (he26.op rfl) (he26.op rfl) w) ?_
    intro a27 he27
    clear he26 a26
    refine lV (Pn.v ⟨⟨1, ix, 0, 0, 0⟩, zeroC, 0⟩) he27 rfl rfl (wanted_plain rfl _) (rn_bPn rfl (he27.op rfl) w) ?_
    intro a28 he28
    clear he27 a27
    refine lV (Ce.v (⟨0, 0, 0, 0, 1, ⟨⟨1, ix, 0, 0, 0⟩, zeroC, 0⟩⟩ : Ce)) he28 rfl rfl (wanted_plain rfl _) (rn_bC23 rfl (he28.op rfl) (he28.op rfl) w) ?_
    intro a29 he29
    clear he28 a28
    rw [hcx] at he29
    refine lNew (fun p => .pointer (some ⟨p, 0, none⟩)) he29 hH rfl rfl (wanted_plain rfl _) (rn_alloc rfl w) ?_
    intro p30 w30 a31 hn hH30 he31
    clear he29 a29 hH hn
    refine lSetV 0 (Ce.cs cx) (cs := (Ce.cs cx)) he31 hH30 rfl (wanted_plain rfl _) rfl rfl rfl rfl rfl (by kernel_rfl) (by kernel_rfl) (by kernel_rfl) rfl ?_
    intro w32 a33 hH32 he33
    replace hH32 : Hp w [⟨p30, 30, (Ce.cs cx)⟩] w32 := hH32
    clear he31 a31 hH30
    refine wpList_nil ?_
    refine then_ok ?_
    have he34 : Env 71 [(7, Value.pointer (some ⟨p30, 0, none⟩)), (0, Value.int .i64 (N : Nat)), (2, Value.int .i64 at_)] a33 := he33.mem ⟨rfl, rfl, rfl, trivial⟩
    clear he33
    refine wp_seq ?_
    refine wp_region_lit ?_
    refine lV (Value.int .i64 (N : Nat)) he34 rfl rfl (wanted_plain rfl _) (rn_mv rfl (he34.op rfl) w32) ?_
    intro a35 he35
    clear he34 a33
    have hlt7 : p30 < w32.heap.size := Blk.lt (hH32.at (i := 0) rfl)
    have hbs := hH32.new.size
    refine lMkN (base := w.heap.size) (c := N) he35 rfl rfl (wanted_plain rfl _) rfl rfl rfl (by omega) hH32.new.size ?_
    intro wm a36 hown hn he36
    obtain ⟨g, hg⟩ : ∃ g, w32.heap.size = g := ⟨_, rfl⟩
    rw [hg] at hown he36 hlt7 hbs
    have hHm := hH32.call hn
    clear he35 a35 hH32 hn hg
    refine lV (Value.slice (some ⟨g, 0, none⟩) N N) he36 rfl rfl (wanted_plain rfl _) (rn_asg rfl (he36.op rfl) wm) ?_
    intro a37 he37
    clear he36 a36
    refine wpList_nil ?_
    refine then_ok ?_
    have he38 : Env 71 [(8, Value.slice (some ⟨g, 0, none⟩) N N), (7, Value.pointer (some ⟨p30, 0, none⟩)), (0, Value.int .i64 (N : Nat)), (2, Value.int .i64 at_)] a37 := he37.mem ⟨rfl, rfl, rfl, rfl, trivial⟩
    clear he37
    refine wp_seq ?_
    refine wp_seq ?_
    refine wp_region_lit ?_
    refine lV (Value.slice (some ⟨g, 0, none⟩) N N) he38 rfl rfl (wanted_plain rfl _) (rn_mv rfl (he38.op rfl) wm) ?_
    intro a39 he39
    clear he38 a37
    refine lV (Value.int .i64 (N : Nat)) he39 rfl rfl (wanted_plain rfl _) (rn_lenC rfl (he39.op rfl) wm) ?_
    intro a40 he40
    clear he39 a39
    refine lV (Value.int .i64 0) he40 rfl rfl (wanted_plain rfl _) (rn_mv rfl (he40.op rfl) wm) ?_
    intro a41 he41
    clear he40 a40
    refine wpList_nil ?_
    refine then_ok ?_
    refine wp_block ?_
    refine loop_nat (fun q a w' => ∃ (k : Nat), q = N - k ∧ k ≤ N ∧ Env 71 [(0, Value.int .i64 (N : Nat)), (2, Value.int .i64 at_), (7, Value.pointer (some ⟨p30, 0, none⟩)), (8, Value.slice (some ⟨g, 0, none⟩) N N), (25, Value.slice (some ⟨g, 0, none⟩) N N), (26, Value.int .i64 (N : Nat)), (27, Value.int .i64 (k : Int))] a ∧ Hp w [⟨p30, 30, (Ce.cs cx)⟩] w' ∧ OwnC w' w.heap.size (.slice (some ⟨g, 0, none⟩) N N) N (List.replicate k cx ++ List.replicate (N - k) zeroCe)) N ⟨0, by omega, by omega, he41.mem ⟨rfl, rfl, rfl, rfl, rfl, rfl, rfl, trivial⟩, hHm, by simpa using hown⟩ ?_
    clear he41 hHm
    rintro q a42 w42 ⟨k, rfl, hk, he42, hH42, hown⟩
    as_aux_lemma =>
      by_cases hkn : k < N
      · skip
        refine wp_seq ?_
        refine wp_region_lit ?_
        refine lV (Value.bool true) he42 rfl rfl (wanted_plain rfl _) (rn_lss rfl (he42.op rfl) (he42.op rfl) (decide_eq_true (by omega)) w42) ?_
        intro a43 he43
        clear he42 a42
        refine wpList_nil ?_
        refine then_ok ?_
        refine wp_seq ?_
        refine wp_cond_true (he43.op rfl) ?_
        refine wp_skip ?_
        refine then_ok ?_
        refine wp_seq ?_
        refine wp_block ?_
        refine wp_seq ?_
        refine wp_region_lit ?_
        refine lV (Value.int .i64 (k : Int)) he43 rfl rfl (wanted_plain rfl _) (rn_mv rfl (he43.op rfl) w42) ?_
        intro a44 he44
        clear he43 a43
        refine lV (Value.int .i64 (k : Int)) he44 rfl rfl (wanted_plain rfl _) (rn_asg rfl (he44.op rfl) w42) ?_
        intro a45 he45
        clear he44 a44
        refine wpList_nil ?_
        refine then_ok ?_
        refine wp_region_lit ?_
        refine lV (Value.slice (some ⟨g, 0, none⟩) N N) he45 rfl rfl (wanted_plain rfl _) (rn_mv rfl (he45.op rfl) w42) ?_
        intro a46 he46
        clear he45 a45
        refine lV (Value.int .i64 (k : Int)) he46 rfl rfl (wanted_plain rfl _) (rn_mv rfl (he46.op rfl) w42) ?_
        intro a47 he47
        clear he46 a46
        refine lV (Ce.v cx) he47 rfl rfl (wanted_plain rfl _) (rn_load rfl (he47.op rfl) (hH42.at (i := 0) rfl)) ?_
        intro a48 he48
        clear he47 a47
        refine lV (Value.pointer (some ⟨g, k * 16, none⟩)) he48 rfl rfl (wanted_plain rfl _) (rn_idx (A := ⟨g, 0, none⟩) (i := k) rfl (he48.op rfl) (he48.op rfl) hkn (by rw [addr_add, Nat.zero_add]) w42) ?_
        intro a49 he49
        clear he48 a48
        refine lStO he49 hown hkn rfl rfl rfl rfl rfl ?_
        intro wx a50 hox hf he50
        have hHx := hH42.own hf (fun q hq => by rw [hq]; exact hbs) (fun b hb hs => by rw [List.mem_singleton.1 hb] at hs; simp only at hs; omega)
        clear he49 a49 hH42 hf hown
        refine wpList_nil ?_
        refine block_ok ?_
        refine then_ok ?_
        refine wp_region_lit ?_
        refine lV (Value.int .i64 ((k + 1 : Nat) : Int)) he50 rfl rfl (wanted_plain rfl _) (rn_add1 rfl (he50.op rfl) (he50.op rfl) (by rw [IntWalk.i64_in _ ⟨by omega, by omega⟩]; rfl) wx) ?_
        intro a51 he51
        clear he50 a50
        refine lV (Value.int .i64 ((k + 1 : Nat) : Int)) he51 rfl rfl (wanted_plain rfl _) (rn_mv rfl (he51.op rfl) wx) ?_
        intro a52 he52
        clear he51 a51
        refine wpList_nil ?_
        refine then_ok ?_
        exact ⟨N - (k + 1), by omega, k + 1, rfl, by omega, he52.mem ⟨rfl, rfl, rfl, rfl, rfl, rfl, rfl, trivial⟩, hHx, by rw [← rep_set N k cx hkn]; exact hox⟩
      · skip
        refine wp_seq ?_
        refine wp_region_lit ?_
        refine lV (Value.bool false) he42 rfl rfl (wanted_plain rfl _) (rn_lss rfl (he42.op rfl) (he42.op rfl) (decide_eq_false (by omega)) w42) ?_
        intro a53 he53
        clear he42 a42
        refine wpList_nil ?_
        refine then_ok ?_
        refine wp_seq ?_
        refine wp_cond_false (he53.op rfl) ?_
        refine wp_exit ?_
        simp only [Exit.then, Exit.inBlock, if_true]
        obtain rfl : k = N := by omega
        rw [Nat.sub_self, List.replicate_zero, List.append_nil] at hown
        have he54 : Env 71 [(0, Value.int .i64 (k : Nat)), (2, Value.int .i64 at_), (7, Value.pointer (some ⟨p30, 0, none⟩)), (8, Value.slice (some ⟨g, 0, none⟩) k k)] a53 := he53.mem ⟨rfl, rfl, rfl, rfl, trivial⟩
        clear he53
        as_aux_lemma =>
          refine wp_seq ?_
          refine reg_cut (fun a w' => ∃ L : List Ce, Env 71 [(0, Value.int .i64 (k : Nat)), (8, Value.slice (some ⟨g, 0, none⟩) k k)] a ∧ New w w' ∧ OwnC w' w.heap.size (.slice (some ⟨g, 0, none⟩) k k) k L ∧ ∀ c ∈ L, c.p.Ok) ?_ ?_
          · skip
            have hrp : ∀ c ∈ List.replicate k cx, c.p.Ok := fun c hc => by rw [List.eq_of_mem_replicate hc]; exact hcp
            by_cases ha0 : 0 ≤ at_
            · skip
              by_cases ha1 : at_ < k
              · skip
                refine wp_seq ?_
                refine wp_region_lit ?_
                refine lV (Value.int .i64 at_) he54 rfl rfl (wanted_plain rfl _) (rn_mv rfl (he54.op rfl) w42) ?_
                intro a55 he55
                clear he54 a53
                refine lV (Value.bool true) he55 rfl rfl (wanted_plain rfl _) (rn_geq rfl (he55.op rfl) (he55.op rfl) (decide_eq_true (by omega)) w42) ?_
                intro a56 he56
                clear he55 a55
                refine lV (Value.bool true) he56 rfl rfl (wanted_plain rfl _) (rn_mv rfl (he56.op rfl) w42) ?_
                intro a57 he57
                clear he56 a56
                refine lV (Value.int .i64 at_) he57 rfl rfl (he57.want rfl rfl rfl rfl rfl) (rn_mv rfl (he57.op rfl) w42) ?_
                intro a58 he58
                clear he57 a57
                refine lV (Value.int .i64 (k : Nat)) he58 rfl rfl (he58.want rfl rfl rfl rfl rfl) (rn_mv rfl (he58.op rfl) w42) ?_
                intro a59 he59
                clear he58 a58
                refine lV (Value.bool true) he59 rfl rfl (he59.want rfl rfl rfl rfl rfl) (rn_lss rfl (he59.op rfl) (he59.op rfl) (decide_eq_true (by omega)) w42) ?_
                intro a60 he60
                clear he59 a59
                refine lV (Value.bool true) he60 rfl rfl (wanted_plain rfl _) (rn_pk rfl (he60.op rfl) (he60.op rfl) w42) ?_
                intro a61 he61
                clear he60 a60
                refine wpList_nil ?_
                refine then_ok ?_
                refine wp_cond_true (he61.op rfl) ?_
                obtain ⟨i, rfl⟩ : ∃ i : Nat, at_ = i := ⟨at_.toNat, by omega⟩
                refine wp_region_lit ?_
                refine lV (Value.slice (some ⟨g, 0, none⟩) k k) he61 rfl rfl (wanted_plain rfl _) (rn_mv rfl (he61.op rfl) w42) ?_
                intro a62 he62
                clear he61 a61
                refine lV (Value.int .i64 (i : Nat)) he62 rfl rfl (wanted_plain rfl _) (rn_mv rfl (he62.op rfl) w42) ?_
                intro a63 he63
                clear he62 a62
                refine lV (Ce.v (⟨120, 0, 0, 0, 1, zeroP⟩ : Ce)) he63 rfl rfl (wanted_plain rfl _) (rn_bC02 rfl (he63.op rfl) (he63.op rfl) w42) ?_
                intro a64 he64
                clear he63 a63
                refine lV (Value.pointer (some ⟨g, i * 16, none⟩)) he64 rfl rfl (wanted_plain rfl _) (rn_idx (A := ⟨g, 0, none⟩) (i := i) rfl (he64.op rfl) (he64.op rfl) (by omega) (by rw [addr_add, Nat.zero_add]) w42) ?_
                intro a65 he65
                clear he64 a64
                refine lStO (k := i) he65 hown (by omega) rfl rfl rfl rfl rfl ?_
                intro wx a66 hox hf he66
                have hnx : New w wx := Fr.trans hH42.new hf (fun q hq e => by omega)
                refine wpList_nil ?_
                refine then_ok ?_
                refine ⟨_, he66.mem ⟨rfl, rfl, trivial⟩, hnx, hox, fun c hc => ?_⟩
                rcases List.mem_or_eq_of_mem_set hc with h | h
                · exact hrp c h
                · rw [h]; exact zeroP_ok
              · skip
                refine wp_seq ?_
                refine wp_region_lit ?_
                refine lV (Value.int .i64 at_) he54 rfl rfl (wanted_plain rfl _) (rn_mv rfl (he54.op rfl) w42) ?_
                intro a67 he67
                clear he54 a53
                refine lV (Value.bool true) he67 rfl rfl (wanted_plain rfl _) (rn_geq rfl (he67.op rfl) (he67.op rfl) (decide_eq_true (by omega)) w42) ?_
                intro a68 he68
                clear he67 a67
                refine lV (Value.bool true) he68 rfl rfl (wanted_plain rfl _) (rn_mv rfl (he68.op rfl) w42) ?_
                intro a69 he69
                clear he68 a68
                refine lV (Value.int .i64 at_) he69 rfl rfl (he69.want rfl rfl rfl rfl rfl) (rn_mv rfl (he69.op rfl) w42) ?_
                intro a70 he70
                clear he69 a69
                refine lV (Value.int .i64 (k : Nat)) he70 rfl rfl (he70.want rfl rfl rfl rfl rfl) (rn_mv rfl (he70.op rfl) w42) ?_
                intro a71 he71
                clear he70 a70
                refine lV (Value.bool false) he71 rfl rfl (he71.want rfl rfl rfl rfl rfl) (rn_lss rfl (he71.op rfl) (he71.op rfl) (decide_eq_false (by omega)) w42) ?_
                intro a72 he72
                clear he71 a71
                refine lV (Value.bool false) he72 rfl rfl (wanted_plain rfl _) (rn_pk rfl (he72.op rfl) (he72.op rfl) w42) ?_
                intro a73 he73
                clear he72 a72
                refine wpList_nil ?_
                refine then_ok ?_
                refine wp_cond_false (he73.op rfl) ?_
                refine wp_skip ?_
                refine then_ok ?_
                exact ⟨List.replicate k cx, he73.mem ⟨rfl, rfl, trivial⟩, hH42.new, hown, hrp⟩
            · skip
              refine wp_seq ?_
              refine wp_region_lit ?_
              refine lV (Value.int .i64 at_) he54 rfl rfl (wanted_plain rfl _) (rn_mv rfl (he54.op rfl) w42) ?_
              intro a74 he74
              clear he54 a53
              refine lV (Value.bool false) he74 rfl rfl (wanted_plain rfl _) (rn_geq rfl (he74.op rfl) (he74.op rfl) (decide_eq_false (by omega)) w42) ?_
              intro a75 he75
              clear he74 a74
              refine lV (Value.bool false) he75 rfl rfl (wanted_plain rfl _) (rn_mv rfl (he75.op rfl) w42) ?_
              intro a76 he76
              clear he75 a75
              refine lSkip he76 rfl rfl (he76.wantNot rfl rfl rfl rfl rfl rfl) ?_
              intro a77 he77
              clear he76 a76
              refine lSkip he77 rfl rfl (he77.wantNot rfl rfl rfl rfl rfl rfl) ?_
              intro a78 he78
              clear he77 a77
              refine lSkip he78 rfl rfl (he78.wantNot rfl rfl rfl rfl rfl rfl) ?_
              intro a79 he79
              clear he78 a78
              refine lV (Value.bool false) he79 rfl rfl (wanted_plain rfl _) (rn_pk0 rfl (he79.op rfl) (he79.op rfl) w42) ?_
              intro a80 he80
              clear he79 a79
              refine wpList_nil ?_
              refine then_ok ?_
              refine wp_cond_false (he80.op rfl) ?_
              refine wp_skip ?_
              refine then_ok ?_
              exact ⟨List.replicate k cx, he80.mem ⟨rfl, rfl, trivial⟩, hH42.new, hown, hrp⟩
          · skip
            rintro ac wc ⟨L, hec, hnc, howc, hpc⟩
            clear he54 hH42 hown
            have hHc : Hp w [] wc := ⟨hnc, by simp, by simp⟩
            have hLl := own_len (R := rC) howc
            obtain ⟨bl, Al, cl, hsl, -, hrl⟩ := own_rdg (R := rC) howc
            simp only [Value.slice.injEq, true_and] at hsl
            obtain ⟨rfl, rfl⟩ := hsl
            replace hrl := rdc_of hrl
            clear howc hnc
            refine wp_seq ?_
            refine wp_region_lit ?_
            refine lV (Value.slice (some ⟨g, 0, none⟩) k k) hec rfl rfl (wanted_plain rfl _) (rn_mv rfl (hec.op rfl) wc) ?_
            intro a81 he81
            clear hec ac
            refine lCx he81 rfl rfl Tryd.func15 (by kernel_rfl) rfl rfl (wanted_plain rfl _) rfl (RPackL_any L k _ _ _ wc hrl hpc (by omega)) ?_
            rintro _ w82 ⟨⟨Aw, cw, bw, rfl, hw⟩, hn⟩
            refine ⟨_, rfl, ?_⟩
            intro a83 he83
            have hH82 := hHc.call hn
            replace hrl := hrl.new hn
            clear he81 a81 hHc
            clear hn
            refine lV (Value.tuple #[Value.slice Aw (packO L).length cw, Value.int .i64 (packE L)]) he83 rfl rfl (wanted_plain rfl _) (rn_mv rfl (he83.op rfl) w82) ?_
            intro a84 he84
            clear he83 a83
            refine lV (Value.slice Aw (packO L).length cw) he84 rfl rfl (wanted_plain rfl _) (rn_ext rfl (he84.op rfl) rfl w82) ?_
            intro a85 he85
            clear he84 a84
            refine lV (Value.int .i64 (packE L)) he85 rfl rfl (wanted_plain rfl _) (rn_ext rfl (he85.op rfl) rfl w82) ?_
            intro a86 he86
            clear he85 a85
            refine lV (Value.slice Aw (packO L).length cw) he86 rfl rfl (wanted_plain rfl _) (rn_asg rfl (he86.op rfl) w82) ?_
            intro a87 he87
            clear he86 a86
            refine lV (Value.int .i64 (packE L)) he87 rfl rfl (wanted_plain rfl _) (rn_asg rfl (he87.op rfl) w82) ?_
            intro a88 he88
            clear he87 a87
            refine wpList_nil ?_
            refine then_ok ?_
            have he89 : Env 71 [(11, Value.int .i64 (packE L)), (10, Value.slice Aw (packO L).length cw), (0, Value.int .i64 (k : Nat)), (8, Value.slice (some ⟨g, 0, none⟩) k k)] a88 := he88.mem ⟨rfl, rfl, rfl, rfl, trivial⟩
            clear he88
            as_aux_lemma =>
              have v1 : (decide (packO L = packO L) && (packE L == packE L)) = true := by simp
              have hwl : (packO L).length ≤ 1000000 := by have h4 := pack_le L; have h5 : (packO L).length ≤ (packL L).length := (by unfold packO; split <;> simp); omega
              refine wp_seq ?_
              refine wp_seq ?_
              refine wp_region_lit ?_
              refine lV (Value.slice (some ⟨g, 0, none⟩) k k) he89 rfl rfl (wanted_plain rfl _) (rn_mv rfl (he89.op rfl) w82) ?_
              intro a90 he90
              clear he89 a88
              refine lV (Value.int .i64 (packE L)) he90 rfl rfl (wanted_plain rfl _) (rn_mv rfl (he90.op rfl) w82) ?_
              intro a91 he91
              clear he90 a90
              refine lV (Value.slice Aw (packO L).length cw) he91 rfl rfl (wanted_plain rfl _) (rn_mv rfl (he91.op rfl) w82) ?_
              intro a92 he92
              clear he91 a91
              refine lC he92 rfl rfl Tryd.func16 (by kernel_rfl) rfl rfl (wanted_plain rfl _) rfl (packs_b L k _ _ _ (packE L) (packO L) _ _ _ _ true v1 w82 hrl hpc (by omega) hw hwl (hT.new hH82.new)) ?_
              intro w93 a94 hn he94
              have hH93 := hH82.call hn
              replace hrl := hrl.new hn
              replace hw := hw.new hn
              clear he92 a92 hH82 hn
              refine lV (Value.bool false) he94 rfl rfl (wanted_plain rfl _) (rn_not (b := true) rfl (he94.op rfl) w93) ?_
              intro a95 he95
              clear he94 a94
              refine wpList_nil ?_
              refine then_ok ?_
              refine wp_cond_false (he95.op rfl) ?_
              refine wp_skip ?_
              refine then_ok ?_
              have he96 : Env 71 [(11, Value.int .i64 (packE L)), (10, Value.slice Aw (packO L).length cw), (0, Value.int .i64 (k : Nat))] a95 := he95.mem ⟨rfl, rfl, rfl, trivial⟩
              clear he95
              by_cases hE : packE L = 0
              · skip
                obtain ⟨f1, f2, f3, f4, f5⟩ := pack_facts hE hpc
                rw [f1] at hw he96 hwl
                refine wp_seq ?_
                refine wp_region_lit ?_
                refine lV (Value.int .i64 (packE L)) he96 rfl rfl (wanted_plain rfl _) (rn_mv rfl (he96.op rfl) w93) ?_
                intro a97 he97
                clear he96 a95
                refine lV (Value.bool false) he97 rfl rfl (wanted_plain rfl _) (rn_neI rfl (he97.op rfl) (he97.op rfl) (by rw [hE]; rfl) w93) ?_
                intro a98 he98
                clear he97 a97
                refine lV (Value.bool false) he98 rfl rfl (wanted_plain rfl _) (rn_mv rfl (he98.op rfl) w93) ?_
                intro a99 he99
                clear he98 a98
                refine lV (Value.slice Aw (packL L).length cw) he99 rfl rfl (he99.want rfl rfl rfl rfl rfl) (rn_mv rfl (he99.op rfl) w93) ?_
                intro a100 he100
                clear he99 a99
                refine lC he100 rfl rfl Tryd.func21 (by kernel_rfl) rfl rfl (he100.want rfl rfl rfl rfl rfl) rfl ((by have h := CountR_any (packL L) _ bw cw Aw w93 hw (runs_ok f2) hwl (hT.new hH93.new); rw [f3, hLl] at h; exact h)) ?_
                intro w101 a102 hn he102
                have hH101 := hH93.call hn
                replace hrl := hrl.new hn
                replace hw := hw.new hn
                clear he100 a100 hH93 hn
                refine lV (Value.int .i64 (k : Nat)) he102 rfl rfl (he102.want rfl rfl rfl rfl rfl) (rn_mv rfl (he102.op rfl) w101) ?_
                intro a103 he103
                clear he102 a102
                refine lV (Value.bool true) he103 rfl rfl (he103.want rfl rfl rfl rfl rfl) (rn_eqI rfl (he103.op rfl) (he103.op rfl) (by simp) w101) ?_
                intro a104 he104
                clear he103 a103
                refine lV (Value.bool true) he104 rfl rfl (he104.want rfl rfl rfl rfl rfl) (rn_mv rfl (he104.op rfl) w101) ?_
                intro a105 he105
                clear he104 a104
                refine lV (Value.slice Aw (packL L).length cw) he105 rfl rfl (he105.want rfl rfl rfl rfl rfl) (rn_mv rfl (he105.op rfl) w101) ?_
                intro a106 he106
                clear he105 a105
                refine lC he106 rfl rfl Tryd.func20 (by kernel_rfl) rfl rfl (he106.want rfl rfl rfl rfl rfl) rfl (f2 ▸ ValidR_any (packL L) _ bw cw Aw w101 hw (runs_ok f2) hwl (hT.new hH101.new)) ?_
                intro w107 a108 hn he108
                have hH107 := hH101.call hn
                replace hrl := hrl.new hn
                replace hw := hw.new hn
                clear he106 a106 hH101 hn
                refine lV (Value.bool true) he108 rfl rfl (he108.want rfl rfl rfl rfl rfl) (rn_pk rfl (he108.op rfl) (he108.op rfl) w107) ?_
                intro a109 he109
                clear he108 a108
                refine lV (Value.bool true) he109 rfl rfl (wanted_plain rfl _) (rn_pk0 rfl (he109.op rfl) (he109.op rfl) w107) ?_
                intro a110 he110
                clear he109 a109
                refine lV (Value.bool true) he110 rfl rfl (wanted_plain rfl _) (rn_mv rfl (he110.op rfl) w107) ?_
                intro a111 he111
                clear he110 a110
                refine lC he111 rfl rfl Tryd.func11 (by kernel_rfl) rfl rfl (he111.want rfl rfl rfl rfl rfl) rfl (known_any w107 (hT.new hH107.new)) ?_
                intro w112 a113 hn he113
                have hH112 := hH107.call hn
                replace hrl := hrl.new hn
                replace hw := hw.new hn
                clear he111 a111 hH107 hn
                refine lV (Value.bool true) he113 rfl rfl (wanted_plain rfl _) (rn_pk rfl (he113.op rfl) (he113.op rfl) w112) ?_
                intro a114 he114
                clear he113 a113
                refine lV (Value.bool true) he114 rfl rfl (wanted_plain rfl _) (rn_asg rfl (he114.op rfl) w112) ?_
                intro a115 he115
                clear he114 a114
                refine wpList_nil ?_
                refine then_ok ?_
                refine wp_ret ?_
                try simp only [Exit.then, Exit.inBlock]
                exact ret_env rfl he115 rfl ⟨rfl, hH112.new.new_below⟩
              · skip
                refine wp_seq ?_
                refine wp_region_lit ?_
                refine lV (Value.int .i64 (packE L)) he96 rfl rfl (wanted_plain rfl _) (rn_mv rfl (he96.op rfl) w93) ?_
                intro a116 he116
                clear he96 a95
                refine lV (Value.bool true) he116 rfl rfl (wanted_plain rfl _) (rn_neI rfl (he116.op rfl) (he116.op rfl) (by simpa using hE) w93) ?_
                intro a117 he117
                clear he116 a116
                refine lV (Value.bool true) he117 rfl rfl (wanted_plain rfl _) (rn_mv rfl (he117.op rfl) w93) ?_
                intro a118 he118
                clear he117 a117
                refine lSkip he118 rfl rfl (he118.wantNot rfl rfl rfl rfl rfl rfl) ?_
                intro a119 he119
                clear he118 a118
                refine lSkip he119 rfl rfl (he119.wantNot rfl rfl rfl rfl rfl rfl) ?_
                intro a120 he120
                clear he119 a119
                refine lSkip he120 rfl rfl (he120.wantNot rfl rfl rfl rfl rfl rfl) ?_
                intro a121 he121
                clear he120 a120
                refine lSkip he121 rfl rfl (he121.wantNot rfl rfl rfl rfl rfl rfl) ?_
                intro a122 he122
                clear he121 a121
                refine lSkip he122 rfl rfl (he122.wantNot rfl rfl rfl rfl rfl rfl) ?_
                intro a123 he123
                clear he122 a122
                refine lSkip he123 rfl rfl (he123.wantU rfl rfl rfl rfl rfl) ?_
                intro a124 he124
                clear he123 a123
                refine lSkip he124 rfl rfl (he124.wantU rfl rfl rfl rfl rfl) ?_
                intro a125 he125
                clear he124 a124
                refine lSkip he125 rfl rfl (he125.wantNot rfl rfl rfl rfl rfl rfl) ?_
                intro a126 he126
                clear he125 a125
                refine lV (Value.bool true) he126 rfl rfl (wanted_plain rfl _) (rn_pk rfl (he126.op rfl) (he126.op rfl) w93) ?_
                intro a127 he127
                clear he126 a126
                refine lV (Value.bool true) he127 rfl rfl (wanted_plain rfl _) (rn_mv rfl (he127.op rfl) w93) ?_
                intro a128 he128
                clear he127 a127
                refine lC he128 rfl rfl Tryd.func11 (by kernel_rfl) rfl rfl (he128.want rfl rfl rfl rfl rfl) rfl (known_any w93 (hT.new hH93.new)) ?_
                intro w129 a130 hn he130
                have hH129 := hH93.call hn
                replace hrl := hrl.new hn
                replace hw := hw.new hn
                clear he128 a128 hH93 hn
                refine lV (Value.bool true) he130 rfl rfl (wanted_plain rfl _) (rn_pk rfl (he130.op rfl) (he130.op rfl) w129) ?_
                intro a131 he131
                clear he130 a130
                refine lV (Value.bool true) he131 rfl rfl (wanted_plain rfl _) (rn_asg rfl (he131.op rfl) w129) ?_
                intro a132 he132
                clear he131 a131
                refine wpList_nil ?_
                refine then_ok ?_
                refine wp_ret ?_
                try simp only [Exit.then, Exit.inBlock]
                exact ret_env rfl he132 rfl ⟨rfl, hH129.new.new_below⟩

end Go.Proofs.YtaiijndldngnkaaDoor
